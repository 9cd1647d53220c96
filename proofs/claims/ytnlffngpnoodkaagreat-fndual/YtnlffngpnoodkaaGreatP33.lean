import Derived.Test.YtnlffngpnoodkaaGreatP21
import Derived.Test.YtnlffngpnoodkaaGreatP31
namespace Go.Proofs.YtnlffngpnoodkaaGreat
set_option maxRecDepth 1000000
set_option maxHeartbeats 0
section
open Go.RowKit Flt
attribute [local go_sem] ic ib ia
variable {w W' w':World} {B P n l cap h i Q n1 c1 c2 n3 c3:Nat} {a a1 a2 a3:Option Addr} {u1 u2 u3:Value} {bs ins outs:List Int} {vs:List Vl}
structure DG (w:World)(B:Nat)(u1 u2 u3:Value)(ins:List Int)(vs:List Vl)(outs:List Int):Prop where
 r1:w.ownsRow B 3 1 u1 ins.length (ins.map (Value.int .i64))
 r2:w.ownsRow B 31 6 u2 vs.length (iN vs)
 r3:w.ownsRow B 3 1 u3 outs.length (outs.map (Value.int .i64))
 a12:j9 u1 u2
 a13:j9 u1 u3
 a23:j9 u2 u3
 k:∀v∈vs,v.k<18446744073709551616
 sz:B<=w.heap.size
theorem DG.kept (f:DG w B u1 u2 u3 ins vs outs)(k:Kept l h w w')(hh:h<=B):DG w' B u1 u2 u3 ins vs outs:=
 ⟨iR f.r1 k λ_ e=>.inr (Nat.le_trans hh (ii f.r1 e).1),iR f.r2 k λ_ e=>.inr (Nat.le_trans hh (ii f.r2 e).1),iR f.r3 k λ_ e=>.inr (Nat.le_trans hh (ii f.r3 e).1),f.a12,f.a13,f.a23,f.k,Nat.le_trans f.sz k.size⟩
theorem DG.keep (f:DG w B u1 u2 u3 ins vs outs)(k:Kept 0 0 w w'):DG w' B u1 u2 u3 ins vs outs:=f.kept k (Nat.zero_le _)
theorem RdF.keep0 (f:RdF w P a n cap i bs)(k:Kept 0 0 w w'):RdF w' P a n cap i bs:=f.keep k (.inr (Nat.le_refl _))
theorem iI (k:Kept 0 0 w w'):Kept l h w w':=⟨k.os,k.tape,k.output,k.size,λi hi _=>k.block i hi (by omega)⟩
theorem RB.kept {W:World}{p:Nat}{b0 b1 b2:Value}(t:RB W p b0 b1 b2)(k:Kept l h W W')(hp:p<l\/h<=p):RB W' p b0 b1 b2:=
 have e:∀o,W'.cell? ⟨p,o,none⟩=W.cell? ⟨p,o,none⟩:=λo=>k.cell (p:=⟨p,o,none⟩) t.sz (by show ¬(l<=p/\p<h);omega)
 have ef:∀o,W'.frozen? ⟨p,o,none⟩=W.frozen? ⟨p,o,none⟩:=λo=>k.frozen (p:=⟨p,o,none⟩) t.sz (by show ¬(l<=p/\p<h);omega)
 ⟨Nat.lt_of_lt_of_le t.sz k.size,by rw[e];exact t.q0,by rw[e];exact t.q1,by rw[e];exact t.q2,by rw[ef];exact t.f0,by rw[ef];exact t.f1,by rw[ef];exact t.f2⟩
def mT (vs:List Vl)(n:Int)(fr:Nat):Nat->Nat->Int
 |0,_=>-1
 |m+1,k=>if (vs.getD ((fr+k)%vs.length) Vl.zero).len=n then (((fr+k)%vs.length:Nat):Int) else mT vs n fr m (k+1)
def kC (vs:List Vl)(n:Int)(fr:Nat):Int:=mT vs n fr vs.length 0
theorem iY {W:World}{u:Value}(h:W.ownsRow B 31 6 u n (iN vs))(hl:vs.length=n){k:Nat}(hk:k<n):∃g cap,u=.slice (some ⟨g,0,none⟩) n cap/\B<=g/\g<W.heap.size/\At W g (k*6) (vs.getD k Vl.zero):=by
 obtain⟨g,cap,e,h1,h2,_,h4⟩:=kU h (by omega) hl
 exact⟨g,cap,e,h1,h2,h4.at_ k hk⟩
theorem E5 {n2:Nat}(h2:w.ownsRow B 31 6 (.slice a2 n2 c2) n2 (iN vs))(hl:vs.length=n2)(hn:n2<=100000)(hR:RdF w P a n cap i bs)(hP:P<B)(q:Int):
  Calls Tryz.prog 120 #[ip a1 n1 c1 a2 n2 c2 a3 n3 c3,.int .i64 q,.pointer (some ⟨P,0,none⟩)] w λe w'=>e=.returned (.int .i64 (kC vs q (nv bs i)))/\RdF w' P a n cap (ni bs i) bs/\Kept P (P+1) w w':=by
 have k0:=hU 0 0 w (iv a1 n1 c1 a2 n2 c2 a3 n3 c3)
 have hnv:=iK hR.ys i
 have HB:Hid _:=iO w (.slice a1 n1 c1) (.slice a2 n2 c2) (.slice a3 n3 c3)
 have HN:Hid _:=lj _ P a n cap i bs (hR.keep0 k0)
 have HK:Hid _:=k0
 have HO:Hid _:=iC h2 k0
 have HM:Hid (kC vs q (nv bs i)=mT vs q (nv bs i) (n2-0) 0):=by show mT vs q (nv bs i) vs.length 0=_;rw[hl];rfl
 have HPs:Hid (P≠w.heap.size):=by have:=hR.lt;show P≠_;omega
 generalize kC vs q (nv bs i)=r at HM ⊢
 generalize nv bs i=x at HN HM hnv
 have HL:Hid (vs.length=n2):=hl
 clear k0 h2 hR hl
 go_enter Tryz.func120,Tryz.ntmps120
 go_wp2_with fail
 refine Calls.mono HN.out ?_
 rintro e w2 ⟨rfl,hR2,k2,hsz⟩
 clear hsz
 have HR2:Hid _:=hR2
 have HK2:Hid (Kept P (P+1) w w2):=(iI HK.out).trans k2
 have HO2:Hid _:=iR HO.out k2 λ_ e=>.inr (by have:=(ii HO.out e).1;omega)
 have HC:Hid (∀o,w2.cell? ⟨w.heap.size,o,none⟩=(w.alloc (iv a1 n1 c1 a2 n2 c2 a3 n3 c3)).cell? ⟨w.heap.size,o,none⟩):=λo=>k2.cell (p:=⟨w.heap.size,o,none⟩) (by simp) (by show ¬(P<=w.heap.size/\w.heap.size<P+1);have:=HPs.out;omega)
 have q1:w2.cell? ⟨w.heap.size,1,none⟩=some (.slice a2 n2 c2):=by rw[HC.out];obtain⟨_,_,z1,_⟩:=HB.out;exact z1
 clear hR2 k2 HK HO HN HC HB
 go_wp2_with fail
 go_loopw [8] (λt W=>∃k:Nat,k<=n2/\t=.int .i64 (k:Int)/\Hid (r=mT vs q x (n2-k) k)/\W=w2) (λt _=>n2-(intOf t).toNat)
 case atStart=>exact⟨0,Nat.zero_le _,rfl,HM.out,rfl⟩
 case round=>
  obtain⟨k,hk,rfl,hr,rfl⟩:=hrel
  by_cases hlt:k<n2
  ·have hm:(x+k)%n2<n2:=Nat.mod_lt _ (by omega)
   obtain⟨g,cp,eu,hg1,hg2,hat⟩:=iY HO2.out HL.out hm
   cases eu
   have y1:=hat.c1
   have hmI:((x:Int)+(k:Int))%(n2:Int)=(((x+k)%n2:Nat):Int):=by rw[Int.natCast_emod,Int.natCast_add]
   have HR:Hid (r=if (vs.getD ((x+k)%n2) Vl.zero).len=q then (((x+k)%n2:Nat):Int) else mT vs q x (n2-(k+1)) (k+1)):=by
    have e:n2-k=(n2-(k+1))+1:=by omega
    have:=hr.out
    rw[e,mT,HL.out] at this
    exact this
   clear hr hat
   generalize (vs.getD ((x+k)%n2) Vl.zero).len=z at y1 HR
   generalize (x+k)%n2=j at hm y1 HR hmI
   by_cases hz:z=q
   ·subst hz
    have HR':Hid (r=(j:Int)):=HR.out.trans (if_pos rfl)
    clear HR HM
    go_wp2
    go_ret
    exact⟨by rw[HR'.out,<-hmI];rfl,HR2.out,HK2.out⟩
   ·have HR':Hid _:=HR.out.trans (if_neg hz)
    clear HR HM
    go_wp2
    go_roundw
    case rel=>exact⟨k+1,by omega,by go_num,HR'.out,trivial⟩
    case measure=>simp[intOf];omega
  ·have hk2:k=n2:=by omega
   have HR':Hid (r=-1):=by have:=hr.out;rw[hk2,Nat.sub_self,mT] at this;exact this
   clear hr HM hk2
   go_wp2
   go_ret
   exact⟨by rw[HR'.out];rfl,HR2.out,HK2.out⟩
theorem E6 (h:RdF w P a n cap i bs):
  Calls Tryz.prog 107 #[.pointer (some ⟨P,0,none⟩)] w λe w'=>e=.returned (.int .i64 ((bs.length:Int)-i))/\Kept 0 0 w w':=by
 have h0:=h.c0
 have h1:=h.c1
 have hn:=h.small
 have hi:=h.hi
 have hl:Hid (n=bs.length):=h.ys.len.symm
 clear h
 go_enter Tryz.func107,Tryz.ntmps107
 go_wp2
 go_quiet (fail)
 go_wp2
 go_ret
 exact⟨by rw[<-hl.out];rfl,iq _ _ _ _⟩
abbrev jw:Value:=.slice none 0 0
structure GrS (W:World)(B P:Nat)(a:Option Addr)(n cap i:Nat)(bs:List Int)(Q:Nat)(u1 u2 u3:Value)(ins:List Int)(vs:List Vl)(outs:List Int):Prop where
 rd:RdF W P a n cap i bs
 dg:DG W B u1 u2 u3 ins vs outs
 bx:RB W Q u1 u2 u3
 rs:RB W (Q+1) jw jw jw
 pb:P<B
 bq:B<=Q
 far:∀b,u1.ownBlock=some b\/u2.ownBlock=some b\/u3.ownBlock=some b->b<Q
theorem GrS.step {W:World}{i':Nat}(f:GrS W B P a n cap i bs Q u1 u2 u3 ins vs outs)(hR:RdF W' P a n cap i' bs)(k:Kept P (P+1) W W'):GrS W' B P a n cap i' bs Q u1 u2 u3 ins vs outs:=
 ⟨hR,f.dg.kept k (by have:=f.pb;omega),f.bx.kept k (by have:=f.pb;have:=f.bq;omega),f.rs.kept k (by have:=f.pb;have:=f.bq;omega),f.pb,f.bq,f.far⟩
theorem GrS.keep {W:World}(f:GrS W B P a n cap i bs Q u1 u2 u3 ins vs outs)(k:Kept 0 0 W W'):GrS W' B P a n cap i bs Q u1 u2 u3 ins vs outs:=f.step (f.rd.keep0 k) (iI k)
theorem GrS.next {W:World}(f:GrS W B P a n cap i bs Q u1 u2 u3 ins vs outs):
  Calls Tryz.prog 37 #[.pointer (some ⟨P,0,none⟩)] W λe W'=>e=.returned (.int .i64 (nv bs i:Int))/\GrS W' B P a n cap (ni bs i) bs Q u1 u2 u3 ins vs outs/\Kept P (P+1) W W':=
 (lj W P a n cap i bs f.rd).mono λ_ _ q=>⟨q.1,f.step q.2.1 q.2.2.1,q.2.2.1⟩
theorem GrS.start (f:DG w B u1 u2 u3 ins vs outs)(hR:RdF w P a n cap i bs)(hP:P<B):
  GrS ((w.alloc (.cells #[u1,u2,u3] 26)).alloc iw) B P a n cap i bs w.heap.size u1 u2 u3 ins vs outs/\Kept 0 0 w ((w.alloc (.cells #[u1,u2,u3] 26)).alloc iw):=by
 have k1:=hU 0 0 w (.cells #[u1,u2,u3] 26)
 have k2:=hU 0 0 (w.alloc (.cells #[u1,u2,u3] 26)) iw
 have hb:=kj (S:=λ_=>False) w _ #[u1,u2,u3] 26 (k2.chg) (λc=>c)
 have hN:=i9 (w.alloc (.cells #[u1,u2,u3] 26))
 rw[show(w.alloc (.cells #[u1,u2,u3] 26)).heap.size=w.heap.size+1 by simp] at hN
 refine⟨⟨hR.keep0 (k1.trans k2),f.keep (k1.trans k2),⟨hb.2.2,hb.1 0,hb.1 1,hb.1 2,hb.2.1 0,hb.2.1 1,hb.2.1 2⟩,hN,hP,f.sz,?_⟩,k1.trans k2⟩
 rintro b (c|c|c)
 ·exact(ii f.r1 c).2
 ·exact(ii f.r2 c).2
 ·exact(ii f.r3 c).2
def sv (v:Vl):Vl:=⟨v.op,v.len,v.a,v.b,v.c,0⟩
def GwO (w:World)(B P:Nat)(a:Option Addr)(n cap i:Nat)(bs:List Int)(u1 u2 u3:Value)(ins:List Int)(vs:List Vl)(outs:List Int)(v0:Vl)(e:Ending)(w':World):Prop:=
 ∃v g' cap',e=.returned (.agg #[u1,.slice (some ⟨g',0,none⟩) (vs.length+1) cap',u3])/\sv v=v0/\DG w' B u1 (.slice (some ⟨g',0,none⟩) (vs.length+1) cap') u3 ins (vs++[v]) outs/\RdF w' P a n cap i bs/\Chg (λb=>b=P\/u2.ownBlock=some b) w w'/\(u2.ownBlock=some g'\/w.heap.size<=g')
theorem pp {S:Nat->Prop}(f:RdF w P a n cap i bs)(k:Chg S w w')(hS:∀b,S b->P<b):RdF w' P a n cap i bs where
 lt:=Nat.lt_of_lt_of_le f.lt k.size
 c0:=by rw[k.cell (p:=⟨P,0,none⟩) f.lt (λc=>Nat.lt_irrefl _ (hS _ c))];exact f.c0
 c1:=by rw[k.cell (p:=⟨P,1,none⟩) f.lt (λc=>Nat.lt_irrefl _ (hS _ c))];exact f.c1
 fz:=by rw[k.frozen (p:=⟨P,1,none⟩) f.lt (λc=>Nat.lt_irrefl _ (hS _ c))];exact f.fz
 hi:=f.hi
 small:=f.small
 ys:=⟨f.ys.len,f.ys.lt,f.ys.at_.imp id λ⟨g,off,e,h3,h4⟩=>⟨g,off,e,Nat.lt_of_lt_of_le h3 k.size,λj hj=>by rw[k.cell (p:=⟨g,off+j,none⟩) h3 (λc=>by have h5:P<g:=hS _ c;have:=f.ne (by omega) g off e;omega)];exact h4 j hj⟩⟩
 ne:=f.ne
theorem GrS.put {W W1:World}(f:GrS W B P a n cap i bs w.heap.size (.slice a1 n1 c1) (.slice a2 vs.length c2) (.slice a3 n3 c3) ins vs outs)(hw:Kept P (P+1) w W)(k:Kept 0 0 W W1)(v:Vl)(hv:v.k<18446744073709551616)(hn:vs.length<=100000):
  Calls Tryz.prog 50 #[ip a1 n1 c1 a2 vs.length c2 a3 n3 c3,v.agg] W1 λe W9=>∃g' cap',e=.returned (ip a1 n1 c1 (some ⟨g',0,none⟩) (vs.length+1) cap' a3 n3 c3)/\RB W9 (w.heap.size+1) jw jw jw/\GwO w B P a n cap i bs (.slice a1 n1 c1) (.slice a2 vs.length c2) (.slice a3 n3 c3) ins vs outs (sv v) (.returned (ip a1 n1 c1 (some ⟨g',0,none⟩) (vs.length+1) cap' a3 n3 c3)) (iM W9 (w.heap.size+1) (.slice a1 n1 c1) (.slice (some ⟨g',0,none⟩) (vs.length+1) cap') (.slice a3 n3 c3)):=by
 have f1:=f.keep k
 have hPB:=f.pb
 have hBQ:=f.bq
 have hsz:=f1.dg.sz
 refine(rF W1 a1 a2 a3 n1 c1 c2 n3 c3 B vs v f1.dg.r2 hsz (by omega)).mono ?_
 rintro e W9 ⟨g',cap',rfl,hown,hs⟩
 have hfar:∀b,(Value.slice a2 vs.length c2).ownBlock=some b->b<w.heap.size/\B<=b:=λb hb=>⟨f.far b (.inr (.inl hb)),(ii f1.dg.r2 hb).1⟩
 have hg':(Value.slice a2 vs.length c2).ownBlock=some g'\/W1.heap.size<=g':=by
  rcases hs.row with c|⟨r,c,hr⟩
  ·exact .inl c.symm
  ·cases c;exact .inr hr
 have hQ:w.heap.size+1<W1.heap.size:=f1.rs.sz
 have hgne:g'≠w.heap.size+1:=by
  rcases hg' with c|c
  ·have:=(hfar _ c).1;omega
  ·omega
 have e1:∀o,W9.cell? ⟨w.heap.size+1,o,none⟩=W1.cell? ⟨w.heap.size+1,o,none⟩:=λo=>hs.chg.cell (p:=⟨w.heap.size+1,o,none⟩) hQ (by rintro (c|c);exact c;have h5:w.heap.size+1<w.heap.size:=(hfar _ c).1;omega)
 have e2:∀o,W9.frozen? ⟨w.heap.size+1,o,none⟩=W1.frozen? ⟨w.heap.size+1,o,none⟩:=λo=>hs.chg.frozen (p:=⟨w.heap.size+1,o,none⟩) hQ (by rintro (c|c);exact c;have h5:w.heap.size+1<w.heap.size:=(hfar _ c).1;omega)
 have rs:=f1.rs
 have kp:=iD W9 (w.heap.size+1) (.slice a1 n1 c1) (.slice (some ⟨g',0,none⟩) (vs.length+1) cap') (.slice a3 n3 c3)
 have hown1:∀{u:Value} {xs:List Value} {m e s:Nat},W1.ownsRow B e s u m xs->j9 (.slice a2 vs.length c2) u->W9.ownsRow B e s u m xs:=λ{u xs m e s} o ap=>kK o hs.chg (by rintro b hb (c|c);exact c;exact ap b c hb)
 have hput:∀{W:World} {u:Value} {xs:List Value} {m e s:Nat} {x y z:Value},W.ownsRow B e s u m xs->u.ownBlock≠some (w.heap.size+1)->(iM W (w.heap.size+1) x y z).ownsRow B e s u m xs:=λo nb=>ir (ir (ir o nb) nb) nb
 have ap12:j9 (.slice a2 vs.length c2) (.slice a1 n1 c1):=λb hb hc=>f.dg.a12 b hc hb
 refine⟨g',cap',rfl,⟨Nat.lt_of_lt_of_le hQ hs.chg.size,by rw[e1];exact rs.q0,by rw[e1];exact rs.q1,by rw[e1];exact rs.q2,by rw[e2];exact rs.f0,by rw[e2];exact rs.f1,by rw[e2];exact rs.f2⟩,v,g',cap',rfl,rfl,⟨?_,?_,?_,?_,f.dg.a13,?_,?_,?_⟩,?_,?_,?_⟩
 ·exact hput (hown1 f1.dg.r1 ap12) (λc=>by have:=f.far _ (.inl c);omega)
 ·have hl:(vs++[v]).length=vs.length+1:=by simp
  rw[hl]
  exact hput hown (λc=>hgne (by simpa[Value.ownBlock] using c))
 ·exact hput (hown1 f1.dg.r3 f.dg.a23) (λc=>by have:=f.far _ (.inr (.inr c));omega)
 ·intro b hb hc
  have:b=g':=by simpa[Value.ownBlock] using hc.symm
  subst this
  rcases hg' with c|c
  ·exact f.dg.a12 _ hb c
  ·have:=f.far _ (.inl hb);omega
 ·intro b hb hc
  have:b=g':=by simpa[Value.ownBlock] using hb.symm
  subst this
  rcases hg' with c|c
  ·exact f.dg.a23 _ c hc
  ·have:=f.far _ (.inr (.inr hc));omega
 ·intro u hu
  rcases List.mem_append.1 hu with c|c
  ·exact f.dg.k u c
  ·simp only[List.mem_singleton] at c;subst c;exact hv
 ·exact Nat.le_trans hsz (Nat.le_trans hs.chg.size kp.size)
 ·have hr:=pp f1.rd hs.chg (by rintro b (c|c);exact c.elim;have:=(hfar b c).2;omega)
  exact hr.keep kp (.inl (by have:=hr.lt;omega))
 ·have hsz1:=Nat.le_trans hw.size k.size
  refine⟨kp.os.trans (hs.chg.os.trans (k.os.trans hw.os)),kp.tape.trans (hs.chg.tape.trans (k.tape.trans hw.tape)),kp.output.trans (hs.chg.output.trans (k.output.trans hw.output)),Nat.le_trans hsz1 (Nat.le_trans hs.chg.size kp.size),λb hb hn=>?_⟩
  refine(kp.block b (by have:=hs.chg.size;omega) (by omega)).trans ?_
  rw[hs.chg.block b (by omega) (by rintro (c|c);exact c;exact hn (.inr c)),k.block b (by have:=hw.size;omega) (by omega)]
  exact hw.block b hb (λc=>hn (.inl (by omega)))
 ·rcases hg' with c|c
  ·exact .inl c
  ·exact .inr (by have:=hw.size;have:=k.size;omega)
theorem qA (f:DG w B (.slice a1 n1 c1) (.slice a2 vs.length c2) (.slice a3 n3 c3) ins vs outs)(hR:RdF w P a n cap i bs)(hP:P<B)(hn:vs.length<=100000)(h0:0<vs.length){m:Int}(hm:(vd vs (nv bs (ni bs i)%vs.length)).len=m){o l:Int}(hk:(nv bs i%16=9/\o=6/\l=m)\/(nv bs i%16=11/\o=9/\l=1)\/(nv bs i%16=13/\o=13/\l=m)):
  Calls Tryz.prog 108 #[ip a1 n1 c1 a2 vs.length c2 a3 n3 c3,.pointer (some ⟨P,0,none⟩)] w (GwO w B P a n cap (ni bs (ni bs i)) bs (.slice a1 n1 c1) (.slice a2 vs.length c2) (.slice a3 n3 c3) ins vs outs ⟨o,l,((nv bs (ni bs i)%vs.length:Nat):Int),0,0,0⟩):=by
 obtain⟨S0,k0⟩:=GrS.start f hR hP
 have HS0:Hid _:=S0
 have HK0:Hid (Kept P (P+1) w _):=iI k0
 have HF:Hid (∀(W:World) (i':Nat) (o m p q r:Int),GrS W B P a n cap i' bs w.heap.size (.slice a1 n1 c1) (.slice a2 vs.length c2) (.slice a3 n3 c3) ins vs outs->Kept P (P+1) w W->∀W1,Kept 0 0 W W1->_):=λW i' o m p q r S k W1 k1=>S.put k k1 (ik o m p q r) (Nat.zero_lt_succ _) hn
 have hj:(nv bs (ni bs i):Int)%(vs.length:Int)=((nv bs (ni bs i)%vs.length:Nat):Int):=by rw[Int.natCast_emod]
 have hjm:nv bs (ni bs i)%vs.length<vs.length:=Nat.mod_lt _ h0
 generalize nv bs (ni bs i)%vs.length=j at hj hjm hm ⊢
 have HJ:Hid ((nv bs (ni bs i):Int).tmod (vs.length:Int)=(j:Int)):=(Int.tmod_eq_emod_of_nonneg (by omega)).trans hj
 have hne:¬vs=[]:=λe=>by rw[e] at h0;exact Nat.lt_irrefl _ h0
 have hx1:=iK hR.ys i
 have hx2:=iK hR.ys (ni bs i)
 have hk0:¬(nv bs i:Int)%16=0:=by omega
 have HKx:Hid _:=hk
 have HM:Hid _:=hm
 clear f hR S0 k0 hk hj hm
 go_enter Tryz.func108,Tryz.ntmps108
 go_wp2_with fail
 generalize (w.alloc (.cells #[.slice a1 n1 c1,.slice a2 vs.length c2,.slice a3 n3 c3] 26)).alloc iw=W0 at HS0 HK0 ⊢
 refine Calls.mono HS0.out.next ?_
 rintro e W1 ⟨rfl,S1,k1⟩
 have q1:=S1.bx.q1
 have HS1:Hid _:=S1
 have HK1:Hid _:=HK0.out.trans k1
 clear S1 k1
 go_upto_region 11 with fail
 go_region_held3 (λw'=>w'.cell? ⟨w.heap.size,1,none⟩=some (.slice a2 vs.length c2)) (go_keep) (first|(go_at_call 37;refine Calls.mono (HS1.out.keep (ie _)).next ?_;rintro e W2 ⟨rfl,S2,k2⟩;have q2:=S2.bx.q1))
 have HK:Hid (Kept P (P+1) w W2):=HK1.out.trans ((iI (ie _)).trans k2)
 have HS:Hid _:=S2
 obtain⟨g,cp,eu,hg1,hg2,hat⟩:=iY S2.dg.r2 rfl hjm
 cases eu
 have y1:=hat.c1
 rw[show(vs.getD j Vl.zero).len=m from HM.out] at y1
 rw[HJ.out]
 clear S2 k2 hat HJ hx2 q1 HS1 HK1 HS0 HK0 hg1 hk0 HM
 rcases HKx.out with⟨kk,rfl,rfl⟩|⟨kk,rfl,rfl⟩|⟨kk,rfl,rfl⟩
 all_goals
  clear HKx
  first|(have hk':(nv bs i:Int)%16=9:=by omega)|(have hk':(nv bs i:Int)%16=11:=by omega)|(have hk':(nv bs i:Int)%16=13:=by omega)
  clear kk
  go_wp2_with fail
  obtain⟨_,q0,q1,q2,_,_,_⟩:=HS.out.bx
  go_region_with (first|(go_at_call 50;refine Calls.mono (HF.out _ _ _ _ _ _ _ HS.out HK.out _ ((ie _).trans k3)) ?_;rintro e W9 ⟨g',cap',rfl,hrb,hfin⟩;obtain⟨_,r0,r1,r2,rf0,rf1,rf2⟩:=hrb)|(go_at_call 55;refine Calls.mono (lz _ _ _ _ _ _) ?_;rintro e W3 ⟨rfl,k3⟩;obtain⟨_,s0,s1,s2,_,_,_⟩:=(HS.out.keep ((ie _).trans k3)).bx))
  all_goals
   go_wp2_with fail
   obtain⟨t0,t1,t2⟩:=iy W9 (w.heap.size+1) _ _ _ r0 r1 r2 (.slice a1 n1 c1) (.slice (some ⟨g',0,none⟩) (vs.length+1) cap') (.slice a3 n3 c3)
   exact bodyPost_ret (v:=ip a1 n1 c1 (some ⟨g',0,none⟩) (vs.length+1) cap' a3 n3 c3) (by simp[results,Tryz.results108,go_sem,t0,t1,t2]) rfl hfin
end
section
open Go.RowKit Flt
theorem GrS.pick {W:World}{B P:Nat}{a:Option Addr}{n cap i:Nat}{bs:List Int}{Q:Nat}{a1 a2 a3:Option Addr}{n1 c1 c2 n3 c3:Nat}{ins:List Int}{vs:List Vl}{outs:List Int}(f:GrS W B P a n cap i bs Q (.slice a1 n1 c1) (.slice a2 vs.length c2) (.slice a3 n3 c3) ins vs outs)(hn:vs.length<=100000)(q:Int):
  Calls Tryz.prog 120 #[ip a1 n1 c1 a2 vs.length c2 a3 n3 c3,.int .i64 q,.pointer (some ⟨P,0,none⟩)] W λe W'=>e=.returned (.int .i64 (kC vs q (nv bs i)))/\GrS W' B P a n cap (ni bs i) bs Q (.slice a1 n1 c1) (.slice a2 vs.length c2) (.slice a3 n3 c3) ins vs outs/\Kept P (P+1) W W':=
 (E5 f.dg.r2 rfl hn f.rd f.pb q).mono λ_ _ h=>⟨h.1,f.step h.2.1 h.2.2,h.2.2⟩
end
section
open Go.RowKit Flt
attribute [local go_sem] ic ib ia
variable {w:World} {B P n cap i n1 c1 c2 n3 c3:Nat} {a a1 a2 a3:Option Addr} {bs ins outs:List Int} {vs:List Vl} {m:Int}
theorem xe (f:DG w B (.slice a1 n1 c1) (.slice a2 vs.length c2) (.slice a3 n3 c3) ins vs outs)(hR:RdF w P a n cap i bs)(hP:P<B)(hn:vs.length<=100000)(h0:0<vs.length)(hm:(vd vs (nv bs (ni bs i)%vs.length)).len=m)(hb:kC vs 1 (nv bs (ni bs (ni bs i)))<0)(hk:nv bs i%16=14\/nv bs i%16=15):
  Calls Tryz.prog 108 #[ip a1 n1 c1 a2 vs.length c2 a3 n3 c3,.pointer (some ⟨P,0,none⟩)] w (GwO w B P a n cap ((ni bs (ni bs (ni bs (ni bs i))))) bs (.slice a1 n1 c1) (.slice a2 vs.length c2) (.slice a3 n3 c3) ins vs outs ⟨9,1,((nv bs (ni bs i)%vs.length:Nat):Int),0,0,0⟩):=by
 have hx3:=iK hR.ys (ni bs (ni bs (ni bs i)))
 obtain⟨S0,k0⟩:=GrS.start f hR hP
 have HS0:Hid _:=S0
 have HK0:Hid (Kept P (P+1) w _):=iI k0
 have HF:Hid (∀(W:World) (i':Nat) (o m p q r:Int),GrS W B P a n cap i' bs w.heap.size (.slice a1 n1 c1) (.slice a2 vs.length c2) (.slice a3 n3 c3) ins vs outs->Kept P (P+1) w W->∀W1,Kept 0 0 W W1->_):=λW i' o m p q r S k W1 k1=>S.put k k1 (ik o m p q r) (Nat.zero_lt_succ _) hn
 have hj:(nv bs (ni bs i):Int)%(vs.length:Int)=((nv bs (ni bs i)%vs.length:Nat):Int):=by rw[Int.natCast_emod]
 have hjm:nv bs (ni bs i)%vs.length<vs.length:=Nat.mod_lt _ h0
 generalize nv bs (ni bs i)%vs.length=j at hj hjm hm ⊢
 have HJ:Hid ((nv bs (ni bs i):Int).tmod (vs.length:Int)=(j:Int)):=(Int.tmod_eq_emod_of_nonneg (by omega)).trans hj
 have hne:¬vs=[]:=λe=>by rw[e] at h0;exact Nat.lt_irrefl _ h0
 have hx1:=iK hR.ys i
 have hx2:=iK hR.ys (ni bs i)
 have hk0:¬(nv bs i:Int)%16=0:=by omega
 have HKx:Hid _:=hk
 have HM:Hid _:=hm
 clear f hR S0 k0 hk hj hm
 go_enter Tryz.func108,Tryz.ntmps108
 go_wp2_with fail
 generalize (w.alloc (.cells #[.slice a1 n1 c1,.slice a2 vs.length c2,.slice a3 n3 c3] 26)).alloc iw=W0 at HS0 HK0 ⊢
 refine Calls.mono HS0.out.next ?_
 rintro e W1 ⟨rfl,S1,k1⟩
 have q1:=S1.bx.q1
 have HS1:Hid _:=S1
 have HK1:Hid _:=HK0.out.trans k1
 clear S1 k1
 go_upto_region 11 with fail
 go_region_held3 (λw'=>w'.cell? ⟨w.heap.size,1,none⟩=some (.slice a2 vs.length c2)) (go_keep) (first|(go_at_call 37;refine Calls.mono (HS1.out.keep (ie _)).next ?_;rintro e W2 ⟨rfl,S2,k2⟩;have q2:=S2.bx.q1))
 have HK:Hid (Kept P (P+1) w W2):=HK1.out.trans ((iI (ie _)).trans k2)
 have HS:Hid _:=S2
 obtain⟨g,cp,eu,hg1,hg2,hat⟩:=iY S2.dg.r2 rfl hjm
 cases eu
 have y1:=hat.c1
 rw[show(vs.getD j Vl.zero).len=m from HM.out] at y1
 rw[HJ.out]
 clear S2 k2 hat HJ hx2 q1 HS1 HK1 HS0 HK0 hg1 hk0 HM
 rcases HKx.out with kk|kk
 all_goals
  replace HKx:Hid _:=kk
  clear kk
  first|(have hk':(nv bs i:Int)%16=14:=by have:=HKx.out;omega)|(have hk':(nv bs i:Int)%16=15:=by have:=HKx.out;omega)
  clear HKx
  obtain⟨_,q0,q1,q2,_,_,_⟩:=HS.out.bx
  go_wp2_with fail
  refine Calls.mono (HS.out.pick hn _) ?_
  rintro e W4 ⟨rfl,S4,k4⟩
  replace HK:Hid _:=HK.out.trans k4
  replace HS:Hid _:=S4
  clear S4 k4 q0 q1 q2 y1
  go_wp2_with fail
  refine Calls.mono HS.out.next ?_
  rintro e W5 ⟨rfl,S5,k5⟩
  replace HK:Hid _:=HK.out.trans k5
  replace HS:Hid _:=S5
  clear S5 k5
  go_wp2_with fail
  obtain⟨_,q0,q1,q2,_,_,_⟩:=HS.out.bx
  go_region_with (first|(go_at_call 50;refine Calls.mono (HF.out _ _ _ _ _ _ _ HS.out HK.out _ ((ie _).trans k3)) ?_;rintro e W9 ⟨g',cap',rfl,hrb,hfin⟩;obtain⟨_,r0,r1,r2,rf0,rf1,rf2⟩:=hrb)|(go_at_call 55;refine Calls.mono (lz _ _ _ _ _ _) ?_;rintro e W3 ⟨rfl,k3⟩;obtain⟨_,s0,s1,s2,_,_,_⟩:=(HS.out.keep ((ie _).trans k3)).bx))
  all_goals
   go_wp2_with fail
   obtain⟨t0,t1,t2⟩:=iy W9 (w.heap.size+1) _ _ _ r0 r1 r2 (.slice a1 n1 c1) (.slice (some ⟨g',0,none⟩) (vs.length+1) cap') (.slice a3 n3 c3)
   exact bodyPost_ret (v:=ip a1 n1 c1 (some ⟨g',0,none⟩) (vs.length+1) cap' a3 n3 c3) (by simp[results,Tryz.results108,go_sem,t0,t1,t2]) rfl hfin
theorem xg (f:DG w B (.slice a1 n1 c1) (.slice a2 vs.length c2) (.slice a3 n3 c3) ins vs outs)(hR:RdF w P a n cap i bs)(hP:P<B)(hn:vs.length<=100000)(h0:0<vs.length)(hm:(vd vs (nv bs (ni bs i)%vs.length)).len=m)(hb:0<=kC vs 1 (nv bs (ni bs (ni bs i))))(hk:nv bs i%16=14):
  Calls Tryz.prog 108 #[ip a1 n1 c1 a2 vs.length c2 a3 n3 c3,.pointer (some ⟨P,0,none⟩)] w (GwO w B P a n cap ((ni bs (ni bs (ni bs (ni bs i))))) bs (.slice a1 n1 c1) (.slice a2 vs.length c2) (.slice a3 n3 c3) ins vs outs ⟨10,((1+nv bs (ni bs (ni bs (ni bs i)))%4:Nat):Int),kC vs 1 (nv bs (ni bs (ni bs i))),0,0,0⟩):=by
 have hc4:(1:Int)+(nv bs (ni bs (ni bs (ni bs i))):Int)%4=((1+nv bs (ni bs (ni bs (ni bs i)))%4:Nat):Int):=by omega
 have hx3:=iK hR.ys (ni bs (ni bs (ni bs i)))
 generalize 1+nv bs (ni bs (ni bs (ni bs i)))%4=d at hc4 ⊢
 have HC4:Hid _:=hc4
 clear hc4
 obtain⟨S0,k0⟩:=GrS.start f hR hP
 have HS0:Hid _:=S0
 have HK0:Hid (Kept P (P+1) w _):=iI k0
 have HF:Hid (∀(W:World) (i':Nat) (o m p q r:Int),GrS W B P a n cap i' bs w.heap.size (.slice a1 n1 c1) (.slice a2 vs.length c2) (.slice a3 n3 c3) ins vs outs->Kept P (P+1) w W->∀W1,Kept 0 0 W W1->_):=λW i' o m p q r S k W1 k1=>S.put k k1 (ik o m p q r) (Nat.zero_lt_succ _) hn
 have hj:(nv bs (ni bs i):Int)%(vs.length:Int)=((nv bs (ni bs i)%vs.length:Nat):Int):=by rw[Int.natCast_emod]
 have hjm:nv bs (ni bs i)%vs.length<vs.length:=Nat.mod_lt _ h0
 generalize nv bs (ni bs i)%vs.length=j at hj hjm hm ⊢
 have HJ:Hid ((nv bs (ni bs i):Int).tmod (vs.length:Int)=(j:Int)):=(Int.tmod_eq_emod_of_nonneg (by omega)).trans hj
 have hne:¬vs=[]:=λe=>by rw[e] at h0;exact Nat.lt_irrefl _ h0
 have hx1:=iK hR.ys i
 have hx2:=iK hR.ys (ni bs i)
 have hk0:¬(nv bs i:Int)%16=0:=by omega
 have HKx:Hid _:=hk
 have HM:Hid _:=hm
 clear f hR S0 k0 hk hj hm
 go_enter Tryz.func108,Tryz.ntmps108
 go_wp2_with fail
 generalize (w.alloc (.cells #[.slice a1 n1 c1,.slice a2 vs.length c2,.slice a3 n3 c3] 26)).alloc iw=W0 at HS0 HK0 ⊢
 refine Calls.mono HS0.out.next ?_
 rintro e W1 ⟨rfl,S1,k1⟩
 have q1:=S1.bx.q1
 have HS1:Hid _:=S1
 have HK1:Hid _:=HK0.out.trans k1
 clear S1 k1
 go_upto_region 11 with fail
 go_region_held3 (λw'=>w'.cell? ⟨w.heap.size,1,none⟩=some (.slice a2 vs.length c2)) (go_keep) (first|(go_at_call 37;refine Calls.mono (HS1.out.keep (ie _)).next ?_;rintro e W2 ⟨rfl,S2,k2⟩;have q2:=S2.bx.q1))
 have HK:Hid (Kept P (P+1) w W2):=HK1.out.trans ((iI (ie _)).trans k2)
 have HS:Hid _:=S2
 obtain⟨g,cp,eu,hg1,hg2,hat⟩:=iY S2.dg.r2 rfl hjm
 cases eu
 have y1:=hat.c1
 rw[show(vs.getD j Vl.zero).len=m from HM.out] at y1
 rw[HJ.out]
 clear S2 k2 hat HJ hx2 q1 HS1 HK1 HS0 HK0 hg1 hk0 HM
 first|(have hk':(nv bs i:Int)%16=14:=by have:=HKx.out;omega)|(have hk':(nv bs i:Int)%16=15:=by have:=HKx.out;omega)
 clear HKx
 obtain⟨_,q0,q1,q2,_,_,_⟩:=HS.out.bx
 go_wp2_with fail
 refine Calls.mono (HS.out.pick hn _) ?_
 rintro e W4 ⟨rfl,S4,k4⟩
 replace HK:Hid _:=HK.out.trans k4
 replace HS:Hid _:=S4
 clear S4 k4 q0 q1 q2 y1
 go_wp2_with fail
 refine Calls.mono HS.out.next ?_
 rintro e W5 ⟨rfl,S5,k5⟩
 replace HK:Hid _:=HK.out.trans k5
 replace HS:Hid _:=S5
 clear S5 k5
 have hc4:=HC4.out
 go_wp2_with fail
 ·obtain⟨_,q0,q1,q2,_,_,_⟩:=HS.out.bx
  go_region_with (first|(go_at_call 50;refine Calls.mono (HF.out _ _ _ _ _ _ _ HS.out HK.out _ ((ie _).trans k3)) ?_;rintro e W9 ⟨g',cap',rfl,hrb,hfin⟩;obtain⟨_,r0,r1,r2,rf0,rf1,rf2⟩:=hrb)|(go_at_call 55;refine Calls.mono (lz _ _ _ _ _ _) ?_;rintro e W3 ⟨rfl,k3⟩;obtain⟨_,s0,s1,s2,_,_,_⟩:=(HS.out.keep ((ie _).trans k3)).bx))
  all_goals
   go_wp2_with fail
   obtain⟨t0,t1,t2⟩:=iy W9 (w.heap.size+1) _ _ _ r0 r1 r2 (.slice a1 n1 c1) (.slice (some ⟨g',0,none⟩) (vs.length+1) cap') (.slice a3 n3 c3)
   exact bodyPost_ret (v:=ip a1 n1 c1 (some ⟨g',0,none⟩) (vs.length+1) cap' a3 n3 c3) (by simp[results,Tryz.results108,go_sem,t0,t1,t2]) rfl hfin
theorem yL (f:DG w B (.slice a1 n1 c1) (.slice a2 vs.length c2) (.slice a3 n3 c3) ins vs outs)(hR:RdF w P a n cap i bs)(hP:P<B)(hn:vs.length<=100000)(h0:0<vs.length)(hm:(vd vs (nv bs (ni bs i)%vs.length)).len=m)(hb:0<=kC vs 1 (nv bs (ni bs (ni bs i))))(hk:nv bs i%16=15):
  Calls Tryz.prog 108 #[ip a1 n1 c1 a2 vs.length c2 a3 n3 c3,.pointer (some ⟨P,0,none⟩)] w (GwO w B P a n cap (ni bs (ni bs (ni bs (ni bs (ni bs i))))) bs (.slice a1 n1 c1) (.slice a2 vs.length c2) (.slice a3 n3 c3) ins vs outs ⟨12,((1+nv bs (ni bs (ni bs (ni bs i)))%4:Nat):Int),kC vs 1 (nv bs (ni bs (ni bs i))),0,((nv bs (ni bs (ni bs (ni bs (ni bs i))))%(1+nv bs (ni bs (ni bs (ni bs i)))%4):Nat):Int),0⟩):=by
 have hc4:(1:Int)+(nv bs (ni bs (ni bs (ni bs i))):Int)%4=((1+nv bs (ni bs (ni bs (ni bs i)))%4:Nat):Int):=by omega
 have hx3:=iK hR.ys (ni bs (ni bs (ni bs i)))
 have hd0:0<1+nv bs (ni bs (ni bs (ni bs i)))%4/\1+nv bs (ni bs (ni bs (ni bs i)))%4<=4:=by omega
 generalize 1+nv bs (ni bs (ni bs (ni bs i)))%4=d at hc4 hd0 ⊢
 have hc:(nv bs (ni bs (ni bs (ni bs (ni bs i)))):Int)%(d:Int)=((nv bs (ni bs (ni bs (ni bs (ni bs i))))%d:Nat):Int):=by rw[Int.natCast_emod]
 have hcm:nv bs (ni bs (ni bs (ni bs (ni bs i))))%d<d:=Nat.mod_lt _ hd0.1
 have hx4:=iK hR.ys (ni bs (ni bs (ni bs (ni bs i))))
 generalize nv bs (ni bs (ni bs (ni bs (ni bs i))))%d=c at hc hcm ⊢
 have HC:Hid ((nv bs (ni bs (ni bs (ni bs (ni bs i)))):Int).tmod (d:Int)=(c:Int)):=(Int.tmod_eq_emod_of_nonneg (by omega)).trans hc
 have HC4:Hid _:=hc4
 clear hc4 hc
 obtain⟨S0,k0⟩:=GrS.start f hR hP
 have HS0:Hid _:=S0
 have HK0:Hid (Kept P (P+1) w _):=iI k0
 have HF:Hid (∀(W:World) (i':Nat) (o m p q r:Int),GrS W B P a n cap i' bs w.heap.size (.slice a1 n1 c1) (.slice a2 vs.length c2) (.slice a3 n3 c3) ins vs outs->Kept P (P+1) w W->∀W1,Kept 0 0 W W1->_):=λW i' o m p q r S k W1 k1=>S.put k k1 (ik o m p q r) (Nat.zero_lt_succ _) hn
 have hj:(nv bs (ni bs i):Int)%(vs.length:Int)=((nv bs (ni bs i)%vs.length:Nat):Int):=by rw[Int.natCast_emod]
 have hjm:nv bs (ni bs i)%vs.length<vs.length:=Nat.mod_lt _ h0
 generalize nv bs (ni bs i)%vs.length=j at hj hjm hm ⊢
 have HJ:Hid ((nv bs (ni bs i):Int).tmod (vs.length:Int)=(j:Int)):=(Int.tmod_eq_emod_of_nonneg (by omega)).trans hj
 have hne:¬vs=[]:=λe=>by rw[e] at h0;exact Nat.lt_irrefl _ h0
 have hx1:=iK hR.ys i
 have hx2:=iK hR.ys (ni bs i)
 have hk0:¬(nv bs i:Int)%16=0:=by omega
 have HKx:Hid _:=hk
 have HM:Hid _:=hm
 clear f hR S0 k0 hk hj hm
 go_enter Tryz.func108,Tryz.ntmps108
 go_wp2_with fail
 generalize (w.alloc (.cells #[.slice a1 n1 c1,.slice a2 vs.length c2,.slice a3 n3 c3] 26)).alloc iw=W0 at HS0 HK0 ⊢
 refine Calls.mono HS0.out.next ?_
 rintro e W1 ⟨rfl,S1,k1⟩
 have q1:=S1.bx.q1
 have HS1:Hid _:=S1
 have HK1:Hid _:=HK0.out.trans k1
 clear S1 k1
 go_upto_region 11 with fail
 go_region_held3 (λw'=>w'.cell? ⟨w.heap.size,1,none⟩=some (.slice a2 vs.length c2)) (go_keep) (first|(go_at_call 37;refine Calls.mono (HS1.out.keep (ie _)).next ?_;rintro e W2 ⟨rfl,S2,k2⟩;have q2:=S2.bx.q1))
 have HK:Hid (Kept P (P+1) w W2):=HK1.out.trans ((iI (ie _)).trans k2)
 have HS:Hid _:=S2
 obtain⟨g,cp,eu,hg1,hg2,hat⟩:=iY S2.dg.r2 rfl hjm
 cases eu
 have y1:=hat.c1
 rw[show(vs.getD j Vl.zero).len=m from HM.out] at y1
 rw[HJ.out]
 clear S2 k2 hat HJ hx2 q1 HS1 HK1 HS0 HK0 hg1 hk0 HM
 first|(have hk':(nv bs i:Int)%16=14:=by have:=HKx.out;omega)|(have hk':(nv bs i:Int)%16=15:=by have:=HKx.out;omega)
 clear HKx
 obtain⟨_,q0,q1,q2,_,_,_⟩:=HS.out.bx
 go_wp2_with fail
 refine Calls.mono (HS.out.pick hn _) ?_
 rintro e W4 ⟨rfl,S4,k4⟩
 replace HK:Hid _:=HK.out.trans k4
 replace HS:Hid _:=S4
 clear S4 k4 q0 q1 q2 y1
 go_wp2_with fail
 refine Calls.mono HS.out.next ?_
 rintro e W5 ⟨rfl,S5,k5⟩
 replace HK:Hid _:=HK.out.trans k5
 replace HS:Hid _:=S5
 clear S5 k5
 have hc4:=HC4.out
 go_wp2_with fail
 ·obtain⟨_,q0,q1,q2,_,_,_⟩:=HS.out.bx
  have hc:=HC.out
  go_region_with (first|(go_at_call 50;refine Calls.mono (HF.out _ _ _ _ _ _ _ HS6.out HK6.out _ k3) ?_;rintro e W9 ⟨g',cap',rfl,hrb,hfin⟩;obtain⟨_,r0,r1,r2,rf0,rf1,rf2⟩:=hrb)|(go_at_call 55;refine Calls.mono (lz _ _ _ _ _ _) ?_;rintro e W3 ⟨rfl,k3⟩;obtain⟨_,s0,s1,s2,_,_,_⟩:=(HS6.out.keep k3).bx)|(go_at_call 37;refine Calls.mono (HS.out.keep (ie _)).next ?_;rintro e W6 ⟨rfl,S6,k6⟩;have HK6:Hid _:=HK.out.trans ((iI (ie _)).trans k6);have HS6:Hid _:=S6;obtain⟨_,z0,z1,z2,_,_,_⟩:=S6.bx;clear S6 k6))
  all_goals
   go_wp2_with fail
   obtain⟨t0,t1,t2⟩:=iy W9 (w.heap.size+1) _ _ _ r0 r1 r2 (.slice a1 n1 c1) (.slice (some ⟨g',0,none⟩) (vs.length+1) cap') (.slice a3 n3 c3)
   exact bodyPost_ret (v:=ip a1 n1 c1 (some ⟨g',0,none⟩) (vs.length+1) cap' a3 n3 c3) (by simp[results,Tryz.results108,go_sem,t0,t1,t2]) rfl hfin
theorem qB (f:DG w B (.slice a1 n1 c1) (.slice a2 vs.length c2) (.slice a3 n3 c3) ins vs outs)(hR:RdF w P a n cap i bs)(hP:P<B)(hn:vs.length<=100000){p:Nat}(hp:(n1=0/\p=ni bs i)\/(0<n1/\nv bs (ni bs i)%2≠1/\p=ni bs (ni bs i)))(hk:nv bs i%16=0\/vs.length=0):
  Calls Tryz.prog 108 #[ip a1 n1 c1 a2 vs.length c2 a3 n3 c3,.pointer (some ⟨P,0,none⟩)] w (GwO w B P a n cap (ni bs (dfI bs p)) bs (.slice a1 n1 c1) (.slice a2 vs.length c2) (.slice a3 n3 c3) ins vs outs ⟨1,((1+nv bs (dfI bs p)%4:Nat):Int),0,0,0,0⟩):=by
 have hc4:(1:Int)+(nv bs (dfI bs p):Int)%4=((1+nv bs (dfI bs p)%4:Nat):Int):=by omega
 have hx3:=iK hR.ys (dfI bs p)
 generalize 1+nv bs (dfI bs p)%4=d at hc4 ⊢
 have HC4:Hid _:=hc4
 have HP:Hid _:=hp
 clear hc4 hp
 obtain⟨S0,k0⟩:=GrS.start f hR hP
 have HS0:Hid _:=S0
 have HK0:Hid (Kept P (P+1) w _):=iI k0
 have HF:Hid (∀(W:World) (i':Nat) (v:Vl),GrS W B P a n cap i' bs w.heap.size (.slice a1 n1 c1) (.slice a2 vs.length c2) (.slice a3 n3 c3) ins vs outs->Kept P (P+1) w W->∀W1,Kept 0 0 W W1->v.k<18446744073709551616->_):=λW i' v S k W1 k1 hv=>S.put k k1 v hv hn
 have hx1:=iK hR.ys i
 have hx2:=iK hR.ys (ni bs i)
 have HKx:Hid _:=hk
 generalize hn2:vs.length=n2 at HS0 HK0 HF hn HKx ⊢
 clear hn2
 clear f hR S0 k0 hk
 go_enter Tryz.func108,Tryz.ntmps108
 go_wp2_with fail
 generalize (w.alloc (.cells #[.slice a1 n1 c1,.slice a2 n2 c2,.slice a3 n3 c3] 26)).alloc iw=W0 at HS0 HK0 ⊢
 refine Calls.mono HS0.out.next ?_
 rintro e W1 ⟨rfl,S1,k1⟩
 have HS:Hid _:=S1
 have HK:Hid _:=HK0.out.trans k1
 clear S1 k1 HS0 HK0
 obtain⟨_,q0,q1,q2,_,_,_⟩:=HS.out.bx
 rcases Nat.eq_zero_or_pos n2 with hz|hz
 case' inl=>have hz':(n2:Int)<=0:=by omega
 case' inl=>clear hz
 case' inr=>have hk':(nv bs i:Int)%16=0:=by have:=HKx.out;omega
 all_goals
  clear HKx
  rcases HP.out with⟨hz1,hp⟩|⟨hz1,hz2,hp⟩
 case' inl.inl|inr.inl=>
  have hz2:(n1:Int)<=0:=by omega
  clear hz1
 case' inl.inr|inr.inr=>
  have HO:Hid (¬(nv bs (ni bs i):Int)%2=1):=by show ¬_;omega
  clear hz2
  go_wp2_with fail
  refine Calls.mono HS.out.next ?_
  rintro e W2 ⟨rfl,S2,k2⟩
  replace HK:Hid _:=HK.out.trans k2
  replace HS:Hid _:=S2
  clear S2 k2 q0 q1 q2
  have ho':=HO.out
 all_goals
  rw[<-hp] at HS
  clear hp HP
  go_wp2_with fail
  refine Calls.mono (CM _ _ _ _ _ _ _ HS.out.rd) ?_
  rintro e W5 ⟨z,rfl,hz9,R5,k5⟩
  replace HK:Hid _:=HK.out.trans k5
  replace HS:Hid _:=HS.out.step R5 k5
  clear R5 k5
  go_wp2_with fail
  refine Calls.mono HS.out.next ?_
  rintro e W6 ⟨rfl,S6,k6⟩
  replace HK:Hid _:=HK.out.trans k6
  replace HS:Hid _:=S6
  clear S6 k6
  have hc4:=HC4.out
  have HZ:Hid _:=hz9
  clear hz9
  obtain⟨_,z0,z1,z2,_,_,_⟩:=HS.out.bx
  go_wp2_with fail
  refine Calls.mono (HF.out _ _ ⟨1,d,0,0,0,z⟩ HS.out HK.out _ (Kept.refl 0 0 _) HZ.out) ?_
  rintro e W9 ⟨g',cap',rfl,hrb,hfin⟩
  obtain⟨_,r0,r1,r2,rf0,rf1,rf2⟩:=hrb
  go_wp2_with fail
  obtain⟨t0,t1,t2⟩:=iy W9 (w.heap.size+1) _ _ _ r0 r1 r2 (.slice a1 n1 c1) (.slice (some ⟨g',0,none⟩) (n2+1) cap') (.slice a3 n3 c3)
  exact bodyPost_ret (v:=ip a1 n1 c1 (some ⟨g',0,none⟩) (n2+1) cap' a3 n3 c3) (by simp[results,Tryz.results108,go_sem,t0,t1,t2]) rfl hfin
end
end Go.Proofs.YtnlffngpnoodkaaGreat
