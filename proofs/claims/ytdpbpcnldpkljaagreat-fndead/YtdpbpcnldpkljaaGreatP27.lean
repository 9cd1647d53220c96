import Derived.Test.YtdpbpcnldpkljaaGreatP11
import Derived.Test.YtdpbpcnldpkljaaGreatP26
import Derived.Test.YtdpbpcnldpkljaaGreatP14
namespace Go.Proofs.Z
open Tryz
set_option maxRecDepth 1000000
set_option maxHeartbeats 0
section
open Go.RowKit Flt
attribute [local go_sem] eD eB eA
def I2 (op len C:Int)(K:Nat)(xa xb xc:List Nat):List Nat:=
 if fi op len C xa.length xb.length xc.length then (List.range len.toNat).map (IV op C K xa xb xc) else[]
end
section
open Go.RowKit Flt
def one (xss:List (List Nat))(v:Vl)(Vs:List (List Nat)):List Nat:=
 if v.op=0 then xss.getD v.a.toNat [] else
  I2 v.op v.len v.c v.k (if 0<cnt v.op then Vs.getD v.a.toNat [] else[]) (if 1<cnt v.op then Vs.getD v.b.toNat [] else[]) (if 2<cnt v.op then Vs.getD v.c.toNat [] else[])
end
section
open Go.RowKit Flt
attribute [local go_sem] eD eB eA
variable {w w':World} {B P n l cap h i:Nat} {a:Option Addr} {u1 u2 u3:Value} {ins outs bs:List Int} {vs:List Vl}
structure DG (w:World)(B:Nat)(u1 u2 u3:Value)(ins:List Int)(vs:List Vl)(outs:List Int):Prop where
 r1:w.ownsRow B 3 1 u1 ins.length (ins.map (Value.int .i64))
 r2:w.ownsRow B 35 6 u2 vs.length (fp vs)
 r3:w.ownsRow B 3 1 u3 outs.length (outs.map (Value.int .i64))
 a12:Apart u1 u2
 a13:Apart u1 u3
 a23:Apart u2 u3
 k:∀v∈vs,v.k<18446744073709551616
 sz:B<=w.heap.size
theorem DG.kept (f:DG w B u1 u2 u3 ins vs outs)(k:Kept l h w w')(hh:h<=B):DG w' B u1 u2 u3 ins vs outs:=
 ⟨fK f.r1 k λ_ e=>.inr (yan hh (eG f.r1 e).1),fK f.r2 k λ_ e=>.inr (yan hh (eG f.r2 e).1),fK f.r3 k λ_ e=>.inr (yan hh (eG f.r3 e).1),f.a12,f.a13,f.a23,f.k,yan f.sz k.size⟩
theorem DG.keep (f:DG w B u1 u2 u3 ins vs outs)(k:Kept 0 0 w w'):DG w' B u1 u2 u3 ins vs outs:=f.kept k (Nat.zero_le _)
theorem RdF.keep0 (f:RdF w P a n cap i bs)(k:Kept 0 0 w w'):RdF w' P a n cap i bs:=f.keep k yab
theorem e8 (k:Kept 0 0 w w'):Kept l h w w':=⟨k.os,k.tape,k.output,k.size,λi hi _=>k.block i hi xaa⟩
theorem RB.kept {W W':World}{p:Nat}{b0 b1 b2:Value}(t:RB W p b0 b1 b2)(k:Kept l h W W')(hp:p<l\/h<=p):RB W' p b0 b1 b2:=
 have e:∀o,W'.cell? ⟨p,o,none⟩=W.cell? ⟨p,o,none⟩:=λo=>k.cell (p:=⟨p,o,none⟩) t.sz (by show ¬(l<=p/\p<h);omega)
 have ef:∀o,W'.frozen? ⟨p,o,none⟩=W.frozen? ⟨p,o,none⟩:=λo=>k.frozen (p:=⟨p,o,none⟩) t.sz (by show ¬(l<=p/\p<h);omega)
 ⟨yaj t.sz k.size,by rw[e];exact t.q0,by rw[e];exact t.q1,by rw[e];exact t.q2,by rw[ef];exact t.f0,by rw[ef];exact t.f1,by rw[ef];exact t.f2⟩
def li (vs:List Vl)(n:Int)(fr:Nat):Nat->Nat->Int
 |0,_=>-1
 |m+1,k=>if (vs.getD ((fr+k)%vs.length) Vl.zero).len=n then (((fr+k)%vs.length:Nat):Int) else li vs n fr m (k+1)
def iZ (vs:List Vl)(n:Int)(fr:Nat):Int:=li vs n fr vs.length 0
theorem gC {W:World}{u:Value}(h:W.ownsRow B 35 6 u n (fp vs))(hl:vs.length=n){k:Nat}(hk:k<n):∃g cap,u=.slice (some ⟨g,0,none⟩) n cap/\B<=g/\g<W.heap.size/\At W g (k*6) (vs.getD k Vl.zero):=by
 obtain⟨g,cap,e,h1,h2,_,h4⟩:=kr h xaa hl
 exact⟨g,cap,e,h1,h2,h4.at_ k hk⟩
theorem Ic {a1 a2 a3:Option Addr}{n1 c1 n2 c2 n3 c3:Nat}(h2:w.ownsRow B 35 6 (.slice a2 n2 c2) n2 (fp vs))(hl:vs.length=n2)(hn:n2<=100000)(hR:RdF w P a n cap i bs)(hP:P<B)(q:Int):
  Calls prog 50 #[eR a1 n1 c1 a2 n2 c2 a3 n3 c3,.int .i64 q,.pointer (some ⟨P,0,none⟩)] w λe w'=>e=.returned (.int .i64 (iZ vs q (nv bs i)))/\RdF w' P a n cap (ni bs i) bs/\Kept P (P+1) w w':=by
 have k0:=ez 0 0 w (eP a1 n1 c1 a2 n2 c2 a3 n3 c3)
 have hnv:=fw hR.ys i
 have HB:Hid _:=fE w (.slice a1 n1 c1) (.slice a2 n2 c2) (.slice a3 n3 c3)
 have HN:Hid _:=iu _ P a n cap i bs (hR.keep0 k0)
 have HK:Hid _:=k0
 have HO:Hid _:=eO h2 k0
 have HM:Hid (iZ vs q (nv bs i)=li vs q (nv bs i) (n2-0) 0):=by show li vs q (nv bs i) vs.length 0=_;rw[hl];rfl
 have HPs:Hid (P≠w.heap.size):=by have:=hR.lt;show P≠_;omega
 generalize iZ vs q (nv bs i)=r at HM ⊢
 generalize nv bs i=x at HN HM hnv
 have HL:Hid (vs.length=n2):=hl
 clear k0 h2 hR hl
 go_enter func50,ntmps50
 go_wp2_with fail
 refine yai HN.out ?_
 rintro e w2 ⟨rfl,hR2,k2,hsz⟩
 clear hsz
 have HR2:Hid _:=hR2
 have HK2:Hid (Kept P (P+1) w w2):=(e8 HK.out).trans k2
 have HO2:Hid _:=fK HO.out k2 λ_ e=>.inr (by have:=(eG HO.out e).1;omega)
 have HC:Hid (∀o,w2.cell? ⟨w.heap.size,o,none⟩=(w.alloc (eP a1 n1 c1 a2 n2 c2 a3 n3 c3)).cell? ⟨w.heap.size,o,none⟩):=λo=>k2.cell (p:=⟨w.heap.size,o,none⟩) xac (by show ¬(P<=w.heap.size/\w.heap.size<P+1);have:=HPs.out;omega)
 have q1:w2.cell? ⟨w.heap.size,1,none⟩=some (.slice a2 n2 c2):=by rw[HC.out];obtain⟨_,_,z1,_⟩:=HB.out;exact z1
 clear hR2 k2 HK HO HN HC HB
 go_wp2_with fail
 go_loopw [8] (λt W=>∃k:Nat,k<=n2/\t=.int .i64 (k:Int)/\Hid (r=li vs q x (n2-k) k)/\W=w2) (λt _=>n2-(intOf t).toNat)
 case atStart=>exact⟨0,Nat.zero_le _,rfl,HM.out,rfl⟩
 case round=>
  obtain⟨k,hk,rfl,hr,rfl⟩:=hrel
  by_cases hlt:k<n2
  ·have hm:(x+k)%n2<n2:=Nat.mod_lt _ xaa
   obtain⟨g,cp,eu,hg1,hg2,hat⟩:=gC HO2.out HL.out hm
   cases eu
   have y1:=hat.c1
   have hmI:((x:Int)+(k:Int))%(n2:Int)=(((x+k)%n2:Nat):Int):=by rw[Int.natCast_emod,Int.natCast_add]
   have HR:Hid (r=if (vs.getD ((x+k)%n2) Vl.zero).len=q then (((x+k)%n2:Nat):Int) else li vs q x (n2-(k+1)) (k+1)):=by
    have e:n2-k=(n2-(k+1))+1:=xaa
    have:=hr.out
    rw[e,li,HL.out] at this
    exact this
   clear hr hat
   generalize (vs.getD ((x+k)%n2) Vl.zero).len=z at y1 HR
   generalize (x+k)%n2=j at hm y1 HR hmI
   by_cases hz:z=q
   ·subst hz
    have HR':Hid (r=(j:Int)):=HR.out.trans (if_pos rfl)
    clear HR HM
    go_wp2
    go_ret
    exact⟨by rw[HR'.out,<-hmI];rfl,HR2.out,HK2.out⟩
   ·have HR':Hid _:=HR.out.trans (if_neg hz)
    clear HR HM
    go_wp2
    go_roundw
    case rel=>exact⟨k+1,by omega,by go_num,HR'.out,trivial⟩
    case measure=>simp[intOf];omega
  ·have hk2:k=n2:=xaa
   have HR':Hid (r=-1):=by have:=hr.out;rw[hk2,Nat.sub_self,li] at this;exact this
   clear hr HM hk2
   go_wp2
   go_ret
   exact⟨by rw[HR'.out];rfl,HR2.out,HK2.out⟩
theorem wm (h:RdF w P a n cap i bs):
  Calls prog 25 #[.pointer (some ⟨P,0,none⟩)] w λe w'=>e=.returned (.int .i64 ((bs.length:Int)-i))/\Kept 0 0 w w':=by
 have h0:=h.c0
 have h1:=h.c1
 have hn:=h.small
 have hi:=h.hi
 have hl:Hid (n=bs.length):=h.ys.len.symm
 clear h
 go_enter func25,ntmps25
 go_wp2
 go_quiet (fail)
 go_wp2
 go_ret
 exact⟨by rw[<-hl.out];rfl,eK _ _ _ _⟩
end
section
open Go.RowKit Flt Ieee
abbrev vd (vs:List Vl)(i:Nat):Vl:=vs.getD i Vl.zero
end
section
open Go.RowKit Flt
attribute [local go_sem] eD eB eA
variable {w W':World} {B P n cap i Q:Nat} {a:Option Addr} {bs ins outs:List Int} {u1 u2 u3:Value} {vs:List Vl}
abbrev gL:Value:=.slice none 0 0
structure GrS (W:World)(B P:Nat)(a:Option Addr)(n cap i:Nat)(bs:List Int)(Q:Nat)(u1 u2 u3:Value)(ins:List Int)(vs:List Vl)(outs:List Int):Prop where
 rd:RdF W P a n cap i bs
 dg:DG W B u1 u2 u3 ins vs outs
 bx:RB W Q u1 u2 u3
 rs:RB W (Q+1) gL gL gL
 pb:P<B
 bq:B<=Q
 far:∀b,u1.ownBlock=some b\/u2.ownBlock=some b\/u3.ownBlock=some b->b<Q
theorem GrS.step {W:World}{i':Nat}(f:GrS W B P a n cap i bs Q u1 u2 u3 ins vs outs)(hR:RdF W' P a n cap i' bs)(k:Kept P (P+1) W W'):GrS W' B P a n cap i' bs Q u1 u2 u3 ins vs outs:=
 ⟨hR,f.dg.kept k (by have:=f.pb;omega),f.bx.kept k (by have:=f.pb;have:=f.bq;omega),f.rs.kept k (by have:=f.pb;have:=f.bq;omega),f.pb,f.bq,f.far⟩
theorem GrS.keep {W:World}(f:GrS W B P a n cap i bs Q u1 u2 u3 ins vs outs)(k:Kept 0 0 W W'):GrS W' B P a n cap i bs Q u1 u2 u3 ins vs outs:=f.step (f.rd.keep0 k) (e8 k)
theorem GrS.next {W:World}(f:GrS W B P a n cap i bs Q u1 u2 u3 ins vs outs):
  Calls prog 19 #[.pointer (some ⟨P,0,none⟩)] W λe W'=>e=.returned (.int .i64 (nv bs i:Int))/\GrS W' B P a n cap (ni bs i) bs Q u1 u2 u3 ins vs outs/\Kept P (P+1) W W':=
 (iu W P a n cap i bs f.rd).mono λ_ _ q=>⟨q.1,f.step q.2.1 q.2.2.1,q.2.2.1⟩
theorem GrS.start (f:DG w B u1 u2 u3 ins vs outs)(hR:RdF w P a n cap i bs)(hP:P<B):
  GrS ((w.alloc (.cells #[u1,u2,u3] 26)).alloc eZ) B P a n cap i bs w.heap.size u1 u2 u3 ins vs outs/\Kept 0 0 w ((w.alloc (.cells #[u1,u2,u3] 26)).alloc eZ):=by
 have k1:=ez 0 0 w (.cells #[u1,u2,u3] 26)
 have k2:=ez 0 0 (w.alloc (.cells #[u1,u2,u3] 26)) eZ
 have hb:=oN (S:=λ_=>False) w _ #[u1,u2,u3] 26 (k2.chg) (λc=>c)
 have hN:=fZ (w.alloc (.cells #[u1,u2,u3] 26))
 rw[show(w.alloc (.cells #[u1,u2,u3] 26)).heap.size=w.heap.size+1 by simp] at hN
 refine⟨⟨hR.keep0 (k1.trans k2),f.keep (k1.trans k2),⟨hb.2.2,hb.1 0,hb.1 1,hb.1 2,hb.2.1 0,hb.2.1 1,hb.2.1 2⟩,hN,hP,f.sz,?_⟩,k1.trans k2⟩
 rintro b (c|c|c)
 ·exact(eG f.r1 c).2
 ·exact(eG f.r2 c).2
 ·exact(eG f.r3 c).2
def sv (v:Vl):Vl:=⟨v.op,v.len,v.a,v.b,v.c,0⟩
def GwO (w:World)(B P:Nat)(a:Option Addr)(n cap i:Nat)(bs:List Int)(u1 u2 u3:Value)(ins:List Int)(vs:List Vl)(outs:List Int)(v0:Vl)(e:Ending)(w':World):Prop:=
 ∃v g' cap',e=.returned (.agg #[u1,.slice (some ⟨g',0,none⟩) (vs.length+1) cap',u3])/\sv v=v0/\DG w' B u1 (.slice (some ⟨g',0,none⟩) (vs.length+1) cap') u3 ins (vs++[v]) outs/\RdF w' P a n cap i bs/\Chg (λb=>b=P\/u2.ownBlock=some b) w w'/\(u2.ownBlock=some g'\/w.heap.size<=g')
theorem nN {w':World}{S:Nat->Prop}(f:RdF w P a n cap i bs)(k:Chg S w w')(hS:∀b,S b->P<b):RdF w' P a n cap i bs where
 lt:=yaj f.lt k.size
 c0:=by rw[k.cell (p:=⟨P,0,none⟩) f.lt (λc=>Nat.lt_irrefl _ (hS _ c))];exact f.c0
 c1:=by rw[k.cell (p:=⟨P,1,none⟩) f.lt (λc=>Nat.lt_irrefl _ (hS _ c))];exact f.c1
 fz:=by rw[k.frozen (p:=⟨P,1,none⟩) f.lt (λc=>Nat.lt_irrefl _ (hS _ c))];exact f.fz
 hi:=f.hi
 small:=f.small
 ys:=⟨f.ys.len,f.ys.lt,f.ys.at_.imp id λ⟨g,off,e,h3,h4⟩=>⟨g,off,e,yaj h3 k.size,λj hj=>by rw[k.cell (p:=⟨g,off+j,none⟩) h3 (λc=>by have h5:P<g:=hS _ c;have:=f.ne xaa g off e;omega)];exact h4 j hj⟩⟩
 ne:=f.ne
theorem GrS.put {w W W1:World}{B P:Nat}{a:Option Addr}{n cap i:Nat}{bs:List Int}{a1 a2 a3:Option Addr}{n1 c1 c2 n3 c3:Nat}{ins:List Int}{vs:List Vl}{outs:List Int}(f:GrS W B P a n cap i bs w.heap.size (.slice a1 n1 c1) (.slice a2 vs.length c2) (.slice a3 n3 c3) ins vs outs)(hw:Kept P (P+1) w W)(k:Kept 0 0 W W1)(v:Vl)(hv:v.k<18446744073709551616)(hn:vs.length<=100000):
  Calls prog 24 #[eR a1 n1 c1 a2 vs.length c2 a3 n3 c3,v.agg] W1 λe W9=>∃g' cap',e=.returned (eR a1 n1 c1 (some ⟨g',0,none⟩) (vs.length+1) cap' a3 n3 c3)/\RB W9 (w.heap.size+1) gL gL gL/\GwO w B P a n cap i bs (.slice a1 n1 c1) (.slice a2 vs.length c2) (.slice a3 n3 c3) ins vs outs (sv v) (.returned (eR a1 n1 c1 (some ⟨g',0,none⟩) (vs.length+1) cap' a3 n3 c3)) (fe W9 (w.heap.size+1) (.slice a1 n1 c1) (.slice (some ⟨g',0,none⟩) (vs.length+1) cap') (.slice a3 n3 c3)):=by
 have f1:=f.keep k
 have hPB:=f.pb
 have hBQ:=f.bq
 have hsz:=f1.dg.sz
 refine(oj W1 a1 a2 a3 n1 c1 c2 n3 c3 B vs v f1.dg.r2 hsz xaa).mono ?_
 rintro e W9 ⟨g',cap',rfl,hown,hs⟩
 have hfar:∀b,(Value.slice a2 vs.length c2).ownBlock=some b->b<w.heap.size/\B<=b:=λb hb=>⟨f.far b (.inr (.inl hb)),(eG f1.dg.r2 hb).1⟩
 have hg':(Value.slice a2 vs.length c2).ownBlock=some g'\/W1.heap.size<=g':=by
  exact xfe
 have hQ:w.heap.size+1<W1.heap.size:=f1.rs.sz
 have hgne:g'≠w.heap.size+1:=by
  rcases hg' with c|c
  ·have:=(hfar _ c).1;omega
  ·omega
 have e1:∀o,W9.cell? ⟨w.heap.size+1,o,none⟩=W1.cell? ⟨w.heap.size+1,o,none⟩:=λo=>hs.chg.cell (p:=⟨w.heap.size+1,o,none⟩) hQ (by rintro (c|c);exact c;have h5:w.heap.size+1<w.heap.size:=(hfar _ c).1;omega)
 have e2:∀o,W9.frozen? ⟨w.heap.size+1,o,none⟩=W1.frozen? ⟨w.heap.size+1,o,none⟩:=λo=>hs.chg.frozen (p:=⟨w.heap.size+1,o,none⟩) hQ (by rintro (c|c);exact c;have h5:w.heap.size+1<w.heap.size:=(hfar _ c).1;omega)
 have rs:=f1.rs
 have kp:=fc W9 (w.heap.size+1) (.slice a1 n1 c1) (.slice (some ⟨g',0,none⟩) (vs.length+1) cap') (.slice a3 n3 c3)
 have hown1:∀{u:Value} {xs:List Value} {m e s:Nat},W1.ownsRow B e s u m xs->Apart (.slice a2 vs.length c2) u->W9.ownsRow B e s u m xs:=λ{u xs m e s} o ap=>fj o hs.chg (by rintro b hb (c|c);exact c;exact ap b c hb)
 have hput:∀{W:World} {u:Value} {xs:List Value} {m e s:Nat} {x y z:Value},W.ownsRow B e s u m xs->u.ownBlock≠some (w.heap.size+1)->(fe W (w.heap.size+1) x y z).ownsRow B e s u m xs:=λo nb=>eH (eH (eH o nb) nb) nb
 have ap12:Apart (.slice a2 vs.length c2) (.slice a1 n1 c1):=λb hb hc=>f.dg.a12 b hc hb
 refine⟨g',cap',rfl,⟨yaj hQ hs.chg.size,by rw[e1];exact rs.q0,by rw[e1];exact rs.q1,by rw[e1];exact rs.q2,by rw[e2];exact rs.f0,by rw[e2];exact rs.f1,by rw[e2];exact rs.f2⟩,v,g',cap',rfl,rfl,⟨?_,?_,?_,?_,f.dg.a13,?_,?_,?_⟩,?_,?_,?_⟩
 ·exact hput (hown1 f1.dg.r1 ap12) (λc=>by have:=f.far _ (.inl c);omega)
 ·have hl:(vs++[v]).length=vs.length+1:=by simp
  rw[hl]
  exact hput hown (λc=>hgne (by simpa[Value.ownBlock] using c))
 ·exact hput (hown1 f1.dg.r3 f.dg.a23) (λc=>by have:=f.far _ (.inr (.inr c));omega)
 ·intro b hb hc
  have:b=g':=by simpa[Value.ownBlock] using hc.symm
  subst this
  rcases hg' with c|c
  ·exact f.dg.a12 _ hb c
  ·have:=f.far _ (.inl hb);omega
 ·intro b hb hc
  have:b=g':=by simpa[Value.ownBlock] using hb.symm
  subst this
  rcases hg' with c|c
  ·exact f.dg.a23 _ c hc
  ·have:=f.far _ (.inr (.inr hc));omega
 ·intro u hu
  exact xee
 ·exact yan hsz (yan hs.chg.size kp.size)
 ·have hr:=nN f1.rd hs.chg (by rintro b (c|c);exact c.elim;have:=(hfar b c).2;omega)
  exact hr.keep kp (.inl (by have:=hr.lt;omega))
 ·have hsz1:=yan hw.size k.size
  refine⟨kp.os.trans (hs.chg.os.trans (k.os.trans hw.os)),kp.tape.trans (hs.chg.tape.trans (k.tape.trans hw.tape)),kp.output.trans (hs.chg.output.trans (k.output.trans hw.output)),yan hsz1 (yan hs.chg.size kp.size),λb hb hn=>?_⟩
  refine(kp.block b (by have:=hs.chg.size;omega) xaa).trans ?_
  rw[hs.chg.block b xaa (by rintro (c|c);exact c;exact hn (.inr c)),k.block b (by have:=hw.size;omega) xaa]
  exact hw.block b hb (λc=>hn (.inl xaa))
 ·rcases hg' with c|c
  ·exact .inl c
  ·exact .inr (by have:=hw.size;have:=k.size;omega)
theorem pE {a1 a2 a3:Option Addr}{n1 c1 c2 n3 c3:Nat}(f:DG w B (.slice a1 n1 c1) (.slice a2 vs.length c2) (.slice a3 n3 c3) ins vs outs)(hR:RdF w P a n cap i bs)(hP:P<B)(hn:vs.length<=100000)(h0:0<vs.length){m:Int}(hm:(vd vs (nv bs (ni bs i)%vs.length)).len=m){o l:Int}(hk:(nv bs i%16=9/\o=6/\l=m)\/(nv bs i%16=11/\o=9/\l=1)\/(nv bs i%16=13/\o=13/\l=m)):
  Calls prog 28 #[eR a1 n1 c1 a2 vs.length c2 a3 n3 c3,.pointer (some ⟨P,0,none⟩)] w (GwO w B P a n cap (ni bs (ni bs i)) bs (.slice a1 n1 c1) (.slice a2 vs.length c2) (.slice a3 n3 c3) ins vs outs ⟨o,l,((nv bs (ni bs i)%vs.length:Nat):Int),0,0,0⟩):=by
 obtain⟨S0,k0⟩:=GrS.start f hR hP
 have HS0:Hid _:=S0
 have HK0:Hid (Kept P (P+1) w _):=e8 k0
 have HF:Hid (∀(W:World) (i':Nat) (o m p q r:Int),GrS W B P a n cap i' bs w.heap.size (.slice a1 n1 c1) (.slice a2 vs.length c2) (.slice a3 n3 c3) ins vs outs->Kept P (P+1) w W->∀W1,Kept 0 0 W W1->_):=λW i' o m p q r S k W1 k1=>S.put k k1 (eI o m p q r) (Nat.zero_lt_succ _) hn
 have hj:(nv bs (ni bs i):Int)%(vs.length:Int)=((nv bs (ni bs i)%vs.length:Nat):Int):=by rw[Int.natCast_emod]
 have hjm:nv bs (ni bs i)%vs.length<vs.length:=Nat.mod_lt _ h0
 generalize nv bs (ni bs i)%vs.length=j at hj hjm hm ⊢
 have HJ:Hid ((nv bs (ni bs i):Int).tmod (vs.length:Int)=(j:Int)):=(Int.tmod_eq_emod_of_nonneg xaa).trans hj
 have hne:¬vs=[]:=λe=>by rw[e] at h0;exact Nat.lt_irrefl _ h0
 have hx1:=fw hR.ys i
 have hx2:=fw hR.ys (ni bs i)
 have hk0:¬(nv bs i:Int)%16=0:=xaa
 have HKx:Hid _:=hk
 have HM:Hid _:=hm
 clear f hR S0 k0 hk hj hm
 go_enter func28,ntmps28
 go_wp2_with fail
 generalize (w.alloc (.cells #[.slice a1 n1 c1,.slice a2 vs.length c2,.slice a3 n3 c3] 26)).alloc eZ=W0 at HS0 HK0 ⊢
 refine yai HS0.out.next ?_
 rintro e W1 ⟨rfl,S1,k1⟩
 have q1:=S1.bx.q1
 have HS1:Hid _:=S1
 have HK1:Hid _:=HK0.out.trans k1
 clear S1 k1
 go_upto_region 11 with fail
 go_region_held3 (λw'=>w'.cell? ⟨w.heap.size,1,none⟩=some (.slice a2 vs.length c2)) (go_keep) (first|(go_at_call 19;refine yai (HS1.out.keep (eC _)).next ?_;rintro e W2 ⟨rfl,S2,k2⟩;have q2:=S2.bx.q1))
 have HK:Hid (Kept P (P+1) w W2):=HK1.out.trans ((e8 (eC _)).trans k2)
 have HS:Hid _:=S2
 obtain⟨g,cp,eu,hg1,hg2,hat⟩:=gC S2.dg.r2 rfl hjm
 cases eu
 have y1:=hat.c1
 rw[show(vs.getD j Vl.zero).len=m from HM.out] at y1
 rw[HJ.out]
 clear S2 k2 hat HJ hx2 q1 HS1 HK1 HS0 HK0 hg1 hk0 HM
 rcases HKx.out with⟨kk,rfl,rfl⟩|⟨kk,rfl,rfl⟩|⟨kk,rfl,rfl⟩
 all_goals
  clear HKx
  first|(have hk':(nv bs i:Int)%16=9:=by omega)|(have hk':(nv bs i:Int)%16=11:=by omega)|(have hk':(nv bs i:Int)%16=13:=by omega)
  clear kk
  go_wp2_with fail
  obtain⟨_,q0,q1,q2,_,_,_⟩:=HS.out.bx
  go_region_with (first|(go_at_call 24;refine yai (HF.out _ _ _ _ _ _ _ HS.out HK.out _ ((eC _).trans k3)) ?_;rintro e W9 ⟨g',cap',rfl,hrb,hfin⟩;obtain⟨_,r0,r1,r2,rf0,rf1,rf2⟩:=hrb)|(go_at_call 26;refine yai (gj _ _ _ _ _ _) ?_;rintro e W3 ⟨rfl,k3⟩;obtain⟨_,s0,s1,s2,_,_,_⟩:=(HS.out.keep ((eC _).trans k3)).bx))
  all_goals
   go_wp2_with fail
   obtain⟨t0,t1,t2⟩:=eY W9 (w.heap.size+1) _ _ _ r0 r1 r2 (.slice a1 n1 c1) (.slice (some ⟨g',0,none⟩) (vs.length+1) cap') (.slice a3 n3 c3)
   exact yay (v:=eR a1 n1 c1 (some ⟨g',0,none⟩) (vs.length+1) cap' a3 n3 c3) (by simp[results,results28,go_sem,t0,t1,t2]) rfl hfin
end
section
open Go.RowKit Flt
theorem GrS.pick {W:World}{B P:Nat}{a:Option Addr}{n cap i:Nat}{bs:List Int}{Q:Nat}{a1 a2 a3:Option Addr}{n1 c1 c2 n3 c3:Nat}{ins:List Int}{vs:List Vl}{outs:List Int}(f:GrS W B P a n cap i bs Q (.slice a1 n1 c1) (.slice a2 vs.length c2) (.slice a3 n3 c3) ins vs outs)(hn:vs.length<=100000)(q:Int):
  Calls prog 50 #[eR a1 n1 c1 a2 vs.length c2 a3 n3 c3,.int .i64 q,.pointer (some ⟨P,0,none⟩)] W λe W'=>e=.returned (.int .i64 (iZ vs q (nv bs i)))/\GrS W' B P a n cap (ni bs i) bs Q (.slice a1 n1 c1) (.slice a2 vs.length c2) (.slice a3 n3 c3) ins vs outs/\Kept P (P+1) W W':=
 (Ic f.dg.r2 rfl hn f.rd f.pb q).mono λ_ _ h=>⟨h.1,f.step h.2.1 h.2.2,h.2.2⟩
end
section
open Go.RowKit Flt
attribute [local go_sem] eD eB eA
variable {w:World} {B P n cap i n1 c1 c2 n3 c3:Nat} {a a1 a2 a3:Option Addr} {bs ins outs:List Int} {vs:List Vl} {m:Int}
theorem xS (f:DG w B (.slice a1 n1 c1) (.slice a2 vs.length c2) (.slice a3 n3 c3) ins vs outs)(hR:RdF w P a n cap i bs)(hP:P<B)(hn:vs.length<=100000)(h0:0<vs.length)(hm:(vd vs (nv bs (ni bs i)%vs.length)).len=m)(hb:iZ vs 1 (nv bs (ni bs (ni bs i)))<0)(hk:nv bs i%16=14\/nv bs i%16=15):
  Calls prog 28 #[eR a1 n1 c1 a2 vs.length c2 a3 n3 c3,.pointer (some ⟨P,0,none⟩)] w (GwO w B P a n cap ((ni bs (ni bs (ni bs (ni bs i))))) bs (.slice a1 n1 c1) (.slice a2 vs.length c2) (.slice a3 n3 c3) ins vs outs ⟨9,1,((nv bs (ni bs i)%vs.length:Nat):Int),0,0,0⟩):=by
 have hx3:=fw hR.ys (ni bs (ni bs (ni bs i)))
 obtain⟨S0,k0⟩:=GrS.start f hR hP
 have HS0:Hid _:=S0
 have HK0:Hid (Kept P (P+1) w _):=e8 k0
 have HF:Hid (∀(W:World) (i':Nat) (o m p q r:Int),GrS W B P a n cap i' bs w.heap.size (.slice a1 n1 c1) (.slice a2 vs.length c2) (.slice a3 n3 c3) ins vs outs->Kept P (P+1) w W->∀W1,Kept 0 0 W W1->_):=λW i' o m p q r S k W1 k1=>S.put k k1 (eI o m p q r) (Nat.zero_lt_succ _) hn
 have hj:(nv bs (ni bs i):Int)%(vs.length:Int)=((nv bs (ni bs i)%vs.length:Nat):Int):=by rw[Int.natCast_emod]
 have hjm:nv bs (ni bs i)%vs.length<vs.length:=Nat.mod_lt _ h0
 generalize nv bs (ni bs i)%vs.length=j at hj hjm hm ⊢
 have HJ:Hid ((nv bs (ni bs i):Int).tmod (vs.length:Int)=(j:Int)):=(Int.tmod_eq_emod_of_nonneg xaa).trans hj
 have hne:¬vs=[]:=λe=>by rw[e] at h0;exact Nat.lt_irrefl _ h0
 have hx1:=fw hR.ys i
 have hx2:=fw hR.ys (ni bs i)
 have hk0:¬(nv bs i:Int)%16=0:=xaa
 have HKx:Hid _:=hk
 have HM:Hid _:=hm
 clear f hR S0 k0 hk hj hm
 go_enter func28,ntmps28
 go_wp2_with fail
 generalize (w.alloc (.cells #[.slice a1 n1 c1,.slice a2 vs.length c2,.slice a3 n3 c3] 26)).alloc eZ=W0 at HS0 HK0 ⊢
 refine yai HS0.out.next ?_
 rintro e W1 ⟨rfl,S1,k1⟩
 have q1:=S1.bx.q1
 have HS1:Hid _:=S1
 have HK1:Hid _:=HK0.out.trans k1
 clear S1 k1
 go_upto_region 11 with fail
 go_region_held3 (λw'=>w'.cell? ⟨w.heap.size,1,none⟩=some (.slice a2 vs.length c2)) (go_keep) (first|(go_at_call 19;refine yai (HS1.out.keep (eC _)).next ?_;rintro e W2 ⟨rfl,S2,k2⟩;have q2:=S2.bx.q1))
 have HK:Hid (Kept P (P+1) w W2):=HK1.out.trans ((e8 (eC _)).trans k2)
 have HS:Hid _:=S2
 obtain⟨g,cp,eu,hg1,hg2,hat⟩:=gC S2.dg.r2 rfl hjm
 cases eu
 have y1:=hat.c1
 rw[show(vs.getD j Vl.zero).len=m from HM.out] at y1
 rw[HJ.out]
 clear S2 k2 hat HJ hx2 q1 HS1 HK1 HS0 HK0 hg1 hk0 HM
 rcases HKx.out with kk|kk
 all_goals
  replace HKx:Hid _:=kk
  clear kk
  first|(have hk':(nv bs i:Int)%16=14:=by have:=HKx.out;omega)|(have hk':(nv bs i:Int)%16=15:=by have:=HKx.out;omega)
  clear HKx
  obtain⟨_,q0,q1,q2,_,_,_⟩:=HS.out.bx
  go_wp2_with fail
  refine yai (HS.out.pick hn _) ?_
  rintro e W4 ⟨rfl,S4,k4⟩
  replace HK:Hid _:=HK.out.trans k4
  replace HS:Hid _:=S4
  clear S4 k4 q0 q1 q2 y1
  go_wp2_with fail
  refine yai HS.out.next ?_
  rintro e W5 ⟨rfl,S5,k5⟩
  replace HK:Hid _:=HK.out.trans k5
  replace HS:Hid _:=S5
  clear S5 k5
  go_wp2_with fail
  obtain⟨_,q0,q1,q2,_,_,_⟩:=HS.out.bx
  go_region_with (first|(go_at_call 24;refine yai (HF.out _ _ _ _ _ _ _ HS.out HK.out _ ((eC _).trans k3)) ?_;rintro e W9 ⟨g',cap',rfl,hrb,hfin⟩;obtain⟨_,r0,r1,r2,rf0,rf1,rf2⟩:=hrb)|(go_at_call 26;refine yai (gj _ _ _ _ _ _) ?_;rintro e W3 ⟨rfl,k3⟩;obtain⟨_,s0,s1,s2,_,_,_⟩:=(HS.out.keep ((eC _).trans k3)).bx))
  all_goals
   go_wp2_with fail
   obtain⟨t0,t1,t2⟩:=eY W9 (w.heap.size+1) _ _ _ r0 r1 r2 (.slice a1 n1 c1) (.slice (some ⟨g',0,none⟩) (vs.length+1) cap') (.slice a3 n3 c3)
   exact yay (v:=eR a1 n1 c1 (some ⟨g',0,none⟩) (vs.length+1) cap' a3 n3 c3) (by simp[results,results28,go_sem,t0,t1,t2]) rfl hfin
theorem xT (f:DG w B (.slice a1 n1 c1) (.slice a2 vs.length c2) (.slice a3 n3 c3) ins vs outs)(hR:RdF w P a n cap i bs)(hP:P<B)(hn:vs.length<=100000)(h0:0<vs.length)(hm:(vd vs (nv bs (ni bs i)%vs.length)).len=m)(hb:0<=iZ vs 1 (nv bs (ni bs (ni bs i))))(hk:nv bs i%16=14):
  Calls prog 28 #[eR a1 n1 c1 a2 vs.length c2 a3 n3 c3,.pointer (some ⟨P,0,none⟩)] w (GwO w B P a n cap ((ni bs (ni bs (ni bs (ni bs i))))) bs (.slice a1 n1 c1) (.slice a2 vs.length c2) (.slice a3 n3 c3) ins vs outs ⟨10,((1+nv bs (ni bs (ni bs (ni bs i)))%4:Nat):Int),iZ vs 1 (nv bs (ni bs (ni bs i))),0,0,0⟩):=by
 have hc4:(1:Int)+(nv bs (ni bs (ni bs (ni bs i))):Int)%4=((1+nv bs (ni bs (ni bs (ni bs i)))%4:Nat):Int):=xaa
 have hx3:=fw hR.ys (ni bs (ni bs (ni bs i)))
 generalize 1+nv bs (ni bs (ni bs (ni bs i)))%4=d at hc4 ⊢
 have HC4:Hid _:=hc4
 clear hc4
 obtain⟨S0,k0⟩:=GrS.start f hR hP
 have HS0:Hid _:=S0
 have HK0:Hid (Kept P (P+1) w _):=e8 k0
 have HF:Hid (∀(W:World) (i':Nat) (o m p q r:Int),GrS W B P a n cap i' bs w.heap.size (.slice a1 n1 c1) (.slice a2 vs.length c2) (.slice a3 n3 c3) ins vs outs->Kept P (P+1) w W->∀W1,Kept 0 0 W W1->_):=λW i' o m p q r S k W1 k1=>S.put k k1 (eI o m p q r) (Nat.zero_lt_succ _) hn
 have hj:(nv bs (ni bs i):Int)%(vs.length:Int)=((nv bs (ni bs i)%vs.length:Nat):Int):=by rw[Int.natCast_emod]
 have hjm:nv bs (ni bs i)%vs.length<vs.length:=Nat.mod_lt _ h0
 generalize nv bs (ni bs i)%vs.length=j at hj hjm hm ⊢
 have HJ:Hid ((nv bs (ni bs i):Int).tmod (vs.length:Int)=(j:Int)):=(Int.tmod_eq_emod_of_nonneg xaa).trans hj
 have hne:¬vs=[]:=λe=>by rw[e] at h0;exact Nat.lt_irrefl _ h0
 have hx1:=fw hR.ys i
 have hx2:=fw hR.ys (ni bs i)
 have hk0:¬(nv bs i:Int)%16=0:=xaa
 have HKx:Hid _:=hk
 have HM:Hid _:=hm
 clear f hR S0 k0 hk hj hm
 go_enter func28,ntmps28
 go_wp2_with fail
 generalize (w.alloc (.cells #[.slice a1 n1 c1,.slice a2 vs.length c2,.slice a3 n3 c3] 26)).alloc eZ=W0 at HS0 HK0 ⊢
 refine yai HS0.out.next ?_
 rintro e W1 ⟨rfl,S1,k1⟩
 have q1:=S1.bx.q1
 have HS1:Hid _:=S1
 have HK1:Hid _:=HK0.out.trans k1
 clear S1 k1
 go_upto_region 11 with fail
 go_region_held3 (λw'=>w'.cell? ⟨w.heap.size,1,none⟩=some (.slice a2 vs.length c2)) (go_keep) (first|(go_at_call 19;refine yai (HS1.out.keep (eC _)).next ?_;rintro e W2 ⟨rfl,S2,k2⟩;have q2:=S2.bx.q1))
 have HK:Hid (Kept P (P+1) w W2):=HK1.out.trans ((e8 (eC _)).trans k2)
 have HS:Hid _:=S2
 obtain⟨g,cp,eu,hg1,hg2,hat⟩:=gC S2.dg.r2 rfl hjm
 cases eu
 have y1:=hat.c1
 rw[show(vs.getD j Vl.zero).len=m from HM.out] at y1
 rw[HJ.out]
 clear S2 k2 hat HJ hx2 q1 HS1 HK1 HS0 HK0 hg1 hk0 HM
 first|(have hk':(nv bs i:Int)%16=14:=by have:=HKx.out;omega)|(have hk':(nv bs i:Int)%16=15:=by have:=HKx.out;omega)
 clear HKx
 obtain⟨_,q0,q1,q2,_,_,_⟩:=HS.out.bx
 go_wp2_with fail
 refine yai (HS.out.pick hn _) ?_
 rintro e W4 ⟨rfl,S4,k4⟩
 replace HK:Hid _:=HK.out.trans k4
 replace HS:Hid _:=S4
 clear S4 k4 q0 q1 q2 y1
 go_wp2_with fail
 refine yai HS.out.next ?_
 rintro e W5 ⟨rfl,S5,k5⟩
 replace HK:Hid _:=HK.out.trans k5
 replace HS:Hid _:=S5
 clear S5 k5
 have hc4:=HC4.out
 exact xca
theorem Af (f:DG w B (.slice a1 n1 c1) (.slice a2 vs.length c2) (.slice a3 n3 c3) ins vs outs)(hR:RdF w P a n cap i bs)(hP:P<B)(hn:vs.length<=100000)(h0:0<vs.length)(hm:(vd vs (nv bs (ni bs i)%vs.length)).len=m)(hb:0<=iZ vs 1 (nv bs (ni bs (ni bs i))))(hk:nv bs i%16=15):
  Calls prog 28 #[eR a1 n1 c1 a2 vs.length c2 a3 n3 c3,.pointer (some ⟨P,0,none⟩)] w (GwO w B P a n cap (ni bs (ni bs (ni bs (ni bs (ni bs i))))) bs (.slice a1 n1 c1) (.slice a2 vs.length c2) (.slice a3 n3 c3) ins vs outs ⟨12,((1+nv bs (ni bs (ni bs (ni bs i)))%4:Nat):Int),iZ vs 1 (nv bs (ni bs (ni bs i))),0,((nv bs (ni bs (ni bs (ni bs (ni bs i))))%(1+nv bs (ni bs (ni bs (ni bs i)))%4):Nat):Int),0⟩):=by
 have hc4:(1:Int)+(nv bs (ni bs (ni bs (ni bs i))):Int)%4=((1+nv bs (ni bs (ni bs (ni bs i)))%4:Nat):Int):=xaa
 have hx3:=fw hR.ys (ni bs (ni bs (ni bs i)))
 have hd0:0<1+nv bs (ni bs (ni bs (ni bs i)))%4/\1+nv bs (ni bs (ni bs (ni bs i)))%4<=4:=xaa
 generalize 1+nv bs (ni bs (ni bs (ni bs i)))%4=d at hc4 hd0 ⊢
 have hc:(nv bs (ni bs (ni bs (ni bs (ni bs i)))):Int)%(d:Int)=((nv bs (ni bs (ni bs (ni bs (ni bs i))))%d:Nat):Int):=by rw[Int.natCast_emod]
 have hcm:nv bs (ni bs (ni bs (ni bs (ni bs i))))%d<d:=Nat.mod_lt _ hd0.1
 have hx4:=fw hR.ys (ni bs (ni bs (ni bs (ni bs i))))
 generalize nv bs (ni bs (ni bs (ni bs (ni bs i))))%d=c at hc hcm ⊢
 have HC:Hid ((nv bs (ni bs (ni bs (ni bs (ni bs i)))):Int).tmod (d:Int)=(c:Int)):=(Int.tmod_eq_emod_of_nonneg xaa).trans hc
 have HC4:Hid _:=hc4
 clear hc4 hc
 obtain⟨S0,k0⟩:=GrS.start f hR hP
 have HS0:Hid _:=S0
 have HK0:Hid (Kept P (P+1) w _):=e8 k0
 have HF:Hid (∀(W:World) (i':Nat) (o m p q r:Int),GrS W B P a n cap i' bs w.heap.size (.slice a1 n1 c1) (.slice a2 vs.length c2) (.slice a3 n3 c3) ins vs outs->Kept P (P+1) w W->∀W1,Kept 0 0 W W1->_):=λW i' o m p q r S k W1 k1=>S.put k k1 (eI o m p q r) (Nat.zero_lt_succ _) hn
 have hj:(nv bs (ni bs i):Int)%(vs.length:Int)=((nv bs (ni bs i)%vs.length:Nat):Int):=by rw[Int.natCast_emod]
 have hjm:nv bs (ni bs i)%vs.length<vs.length:=Nat.mod_lt _ h0
 generalize nv bs (ni bs i)%vs.length=j at hj hjm hm ⊢
 have HJ:Hid ((nv bs (ni bs i):Int).tmod (vs.length:Int)=(j:Int)):=(Int.tmod_eq_emod_of_nonneg xaa).trans hj
 have hne:¬vs=[]:=λe=>by rw[e] at h0;exact Nat.lt_irrefl _ h0
 have hx1:=fw hR.ys i
 have hx2:=fw hR.ys (ni bs i)
 have hk0:¬(nv bs i:Int)%16=0:=xaa
 have HKx:Hid _:=hk
 have HM:Hid _:=hm
 clear f hR S0 k0 hk hj hm
 go_enter func28,ntmps28
 go_wp2_with fail
 generalize (w.alloc (.cells #[.slice a1 n1 c1,.slice a2 vs.length c2,.slice a3 n3 c3] 26)).alloc eZ=W0 at HS0 HK0 ⊢
 refine yai HS0.out.next ?_
 rintro e W1 ⟨rfl,S1,k1⟩
 have q1:=S1.bx.q1
 have HS1:Hid _:=S1
 have HK1:Hid _:=HK0.out.trans k1
 clear S1 k1
 go_upto_region 11 with fail
 go_region_held3 (λw'=>w'.cell? ⟨w.heap.size,1,none⟩=some (.slice a2 vs.length c2)) (go_keep) (first|(go_at_call 19;refine yai (HS1.out.keep (eC _)).next ?_;rintro e W2 ⟨rfl,S2,k2⟩;have q2:=S2.bx.q1))
 have HK:Hid (Kept P (P+1) w W2):=HK1.out.trans ((e8 (eC _)).trans k2)
 have HS:Hid _:=S2
 obtain⟨g,cp,eu,hg1,hg2,hat⟩:=gC S2.dg.r2 rfl hjm
 cases eu
 have y1:=hat.c1
 rw[show(vs.getD j Vl.zero).len=m from HM.out] at y1
 rw[HJ.out]
 clear S2 k2 hat HJ hx2 q1 HS1 HK1 HS0 HK0 hg1 hk0 HM
 first|(have hk':(nv bs i:Int)%16=14:=by have:=HKx.out;omega)|(have hk':(nv bs i:Int)%16=15:=by have:=HKx.out;omega)
 clear HKx
 obtain⟨_,q0,q1,q2,_,_,_⟩:=HS.out.bx
 go_wp2_with fail
 refine yai (HS.out.pick hn _) ?_
 rintro e W4 ⟨rfl,S4,k4⟩
 replace HK:Hid _:=HK.out.trans k4
 replace HS:Hid _:=S4
 clear S4 k4 q0 q1 q2 y1
 go_wp2_with fail
 refine yai HS.out.next ?_
 rintro e W5 ⟨rfl,S5,k5⟩
 replace HK:Hid _:=HK.out.trans k5
 replace HS:Hid _:=S5
 clear S5 k5
 have hc4:=HC4.out
 exact xbm
theorem pF (f:DG w B (.slice a1 n1 c1) (.slice a2 vs.length c2) (.slice a3 n3 c3) ins vs outs)(hR:RdF w P a n cap i bs)(hP:P<B)(hn:vs.length<=100000){p:Nat}(hp:(n1=0/\p=ni bs i)\/(0<n1/\nv bs (ni bs i)%2≠1/\p=ni bs (ni bs i)))(hk:nv bs i%16=0\/vs.length=0):
  Calls prog 28 #[eR a1 n1 c1 a2 vs.length c2 a3 n3 c3,.pointer (some ⟨P,0,none⟩)] w (GwO w B P a n cap (ni bs (dfI bs p)) bs (.slice a1 n1 c1) (.slice a2 vs.length c2) (.slice a3 n3 c3) ins vs outs ⟨1,((1+nv bs (dfI bs p)%4:Nat):Int),0,0,0,0⟩):=by
 have hc4:(1:Int)+(nv bs (dfI bs p):Int)%4=((1+nv bs (dfI bs p)%4:Nat):Int):=xaa
 have hx3:=fw hR.ys (dfI bs p)
 generalize 1+nv bs (dfI bs p)%4=d at hc4 ⊢
 have HC4:Hid _:=hc4
 have HP:Hid _:=hp
 clear hc4 hp
 obtain⟨S0,k0⟩:=GrS.start f hR hP
 have HS0:Hid _:=S0
 have HK0:Hid (Kept P (P+1) w _):=e8 k0
 have HF:Hid (∀(W:World) (i':Nat) (v:Vl),GrS W B P a n cap i' bs w.heap.size (.slice a1 n1 c1) (.slice a2 vs.length c2) (.slice a3 n3 c3) ins vs outs->Kept P (P+1) w W->∀W1,Kept 0 0 W W1->v.k<18446744073709551616->_):=λW i' v S k W1 k1 hv=>S.put k k1 v hv hn
 have hx1:=fw hR.ys i
 have hx2:=fw hR.ys (ni bs i)
 have HKx:Hid _:=hk
 generalize hn2:vs.length=n2 at HS0 HK0 HF hn HKx ⊢
 clear hn2
 clear f hR S0 k0 hk
 go_enter func28,ntmps28
 go_wp2_with fail
 generalize (w.alloc (.cells #[.slice a1 n1 c1,.slice a2 n2 c2,.slice a3 n3 c3] 26)).alloc eZ=W0 at HS0 HK0 ⊢
 refine yai HS0.out.next ?_
 rintro e W1 ⟨rfl,S1,k1⟩
 have HS:Hid _:=S1
 have HK:Hid _:=HK0.out.trans k1
 clear S1 k1 HS0 HK0
 obtain⟨_,q0,q1,q2,_,_,_⟩:=HS.out.bx
 rcases Nat.eq_zero_or_pos n2 with hz|hz
 case' inl=>have hz':(n2:Int)<=0:=xaa
 case' inl=>clear hz
 case' inr=>have hk':(nv bs i:Int)%16=0:=by have:=HKx.out;omega
 all_goals
  clear HKx
  rcases HP.out with⟨hz1,hp⟩|⟨hz1,hz2,hp⟩
 case' inl.inl|inr.inl=>
  have hz2:(n1:Int)<=0:=xaa
  clear hz1
 case' inl.inr|inr.inr=>
  have HO:Hid (¬(nv bs (ni bs i):Int)%2=1):=by show ¬_;omega
  clear hz2
  go_wp2_with fail
  refine yai HS.out.next ?_
  rintro e W2 ⟨rfl,S2,k2⟩
  replace HK:Hid _:=HK.out.trans k2
  replace HS:Hid _:=S2
  clear S2 k2 q0 q1 q2
  have ho':=HO.out
 all_goals
  rw[<-hp] at HS
  clear hp HP
  go_wp2_with fail
  refine yai (F5 _ _ _ _ _ _ _ HS.out.rd) ?_
  rintro e W5 ⟨z,rfl,hz9,R5,k5⟩
  replace HK:Hid _:=HK.out.trans k5
  replace HS:Hid _:=HS.out.step R5 k5
  clear R5 k5
  go_wp2_with fail
  refine yai HS.out.next ?_
  rintro e W6 ⟨rfl,S6,k6⟩
  replace HK:Hid _:=HK.out.trans k6
  replace HS:Hid _:=S6
  clear S6 k6
  have hc4:=HC4.out
  have HZ:Hid _:=hz9
  clear hz9
  obtain⟨_,z0,z1,z2,_,_,_⟩:=HS.out.bx
  go_wp2_with fail
  refine yai (HF.out _ _ ⟨1,d,0,0,0,z⟩ HS.out HK.out _ (Kept.refl 0 0 _) HZ.out) ?_
  rintro e W9 ⟨g',cap',rfl,hrb,hfin⟩
  obtain⟨_,r0,r1,r2,rf0,rf1,rf2⟩:=hrb
  go_wp2_with fail
  obtain⟨t0,t1,t2⟩:=eY W9 (w.heap.size+1) _ _ _ r0 r1 r2 (.slice a1 n1 c1) (.slice (some ⟨g',0,none⟩) (n2+1) cap') (.slice a3 n3 c3)
  exact yay (v:=eR a1 n1 c1 (some ⟨g',0,none⟩) (n2+1) cap' a3 n3 c3) (by simp[results,results28,go_sem,t0,t1,t2]) rfl hfin
end
section
open Go.RowKit Flt Ieee
variable {us r:List Vl}
theorem F7 {q:Nat}(h:q<us.length):vd (us++r) q=vd us q:=by
 unfold vd
 exact xik
theorem F8 (q:Nat):vd (us++r) (us.length+q)=vd r q:=by
 unfold vd
 rw[yah,yar xaa,Nat.add_sub_cancel_left,<-yah]
