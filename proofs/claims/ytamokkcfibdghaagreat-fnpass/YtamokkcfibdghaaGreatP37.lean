import Derived.Test.YtamokkcfibdghaaGreatP27
namespace Go.Proofs.Z
variable {Zp:Prop}
open Tryz
set_option maxRecDepth 1000000
set_option maxHeartbeats 0
section
open Go.RowKit Flt Ieee
abbrev vd (vs:List Vl)(i:Nat):Vl:=vs.getD i hM
end
section
open Go.RowKit Flt
attribute [local go_sem] eG eE eD
variable {w W':World}{I P n cap i Q:Nat}{a:Option Addr}{bs ins outs:List Int}{am al ar:Value}{vs:List Vl}
abbrev iR:Value:=.slice none 0 0
structure GrS (W:World)(B P:Nat)(a:Option Addr)(n cap i:Nat)(bs:List Int)(Q:Nat)(u1 u2 u3:Value)(ins:List Int)(vs:List Vl)(outs:List Int):Prop where
 rd:RdF W P a n cap i bs
 dg:DG W B u1 u2 u3 ins vs outs
 bx:RB W Q u1 u2 u3
 rs:RB W (Q+1) iR iR iR
 pb:P<B
 bq:B<=Q
 far:∀b,u1.ownBlock=some b\/u2.ownBlock=some b\/u3.ownBlock=some b->b<Q
theorem GrS.step{W G}(f:GrS W I P a n cap i bs Q am al ar ins vs outs)(C:RdF W' P a n cap G bs)(k:Kept P (P+1) W W'):GrS W' I P a n cap G bs Q am al ar ins vs outs:=
 ⟨C,f.dg.kept k (hR f.pb),f.bx.kept k (hS f.pb f.bq),f.rs.kept k (hS f.pb f.bq),f.pb,f.bq,f.far⟩
theorem GrS.keep{W}(f:GrS W I P a n cap i bs Q am al ar ins vs outs)(k:Kept 0 0 W W'):GrS W' I P a n cap i bs Q am al ar ins vs outs:=f.step (f.rd.keep0 k) (fw k)
theorem GrS.next{W}(f:GrS W I P a n cap i bs Q am al ar ins vs outs):
  Calls prog 13 #[hG P] W λe W'=>e=.returned (hI (nv bs i:Int))/\GrS W' I P a n cap (ni bs i) bs Q am al ar ins vs outs/\Kept P (P+1) W W':=
 (jp W P a n cap i bs f.rd).mono λ_ _ q=>⟨q.1,f.step q.2.1 q.2.2.1,q.2.2.1⟩
theorem GrS.start(f:DG w I am al ar ins vs outs)(C:RdF w P a n cap i bs)(hP:P<I):
  GrS ((w.alloc (.cells #[am,al,ar] 26)).alloc fp) I P a n cap i bs w.heap.size am al ar ins vs outs/\Kept 0 0 w ((w.alloc (.cells #[am,al,ar] 26)).alloc fp):=by
 have an:=ez 0 0 w (.cells #[am,al,ar] 26);have ao:=ez 0 0 (w.alloc (.cells #[am,al,ar] 26)) fp;have hb:=sH (S:=λ_=>False) w _ #[am,al,ar] 26 (ao.chg) (λc=>c);have bF:=fY (w.alloc (.cells #[am,al,ar] 26));rw[show(w.alloc (.cells #[am,al,ar] 26)).heap.size=w.heap.size+1 by simp]at bF;refine⟨⟨C.keep0 (an.trans ao),f.keep (an.trans ao),⟨hb.2.2,hb.1 0,hb.1 1,hb.1 2,hb.2.1 0,hb.2.1 1,hb.2.1 2⟩,bF,hP,f.sz,?_⟩,an.trans ao⟩;rintro b (c|c|c)
 ·exact(eI f.r1 c).2
 ·exact(eI f.r2 c).2
 exact(eI f.r3 c).2
def fbz (k:Nat):Nat:=if k=0 then 0 else fb k
theorem Bn(k):fbz k=fb k:=by
 unfold fbz;split
 ·rename_i h;rw[h];exact fb_zero.symm
 rfl
def sv (v:Vl):Vl:=⟨v.op,v.len,v.a,v.b,v.c,fbz v.k⟩
def GwO (w:World)(B P:Nat)(a:Option Addr)(n cap i:Nat)(bs:List Int)(u1 u2 u3:Value)(ins:List Int)(vs:List Vl)(outs:List Int)(v0:Vl)(e:Ending)(w':World):Prop:=
 ∃v g' cap',e=.returned (.agg #[u1,.slice (some ⟨g',0,none⟩) (vs.length+1) cap',u3])/\sv v=v0/\DG w' B u1 (.slice (some ⟨g',0,none⟩) (vs.length+1) cap') u3 ins (vs++[v]) outs/\RdF w' P a n cap i bs/\Chg (λb=>b=P\/u2.ownBlock=some b) w w'/\(u2.ownBlock=some g'\/w.heap.size<=g')
theorem rJ{J S}(f:RdF w P a n cap i bs)(k:Chg S w J)(aT:∀b,S b->P<b):RdF J P a n cap i bs where
 lt:=yaj f.lt k.size
 c0:=by rw[k.cell (p:=⟨P,0,none⟩) f.lt (λc=>Nat.lt_irrefl _ (aT _ c))];exact f.c0
 c1:=by rw[k.cell (p:=⟨P,1,none⟩) f.lt (λc=>Nat.lt_irrefl _ (aT _ c))];exact f.c1
 fz:=by rw[k.frozen (p:=⟨P,1,none⟩) f.lt (λc=>Nat.lt_irrefl _ (aT _ c))];exact f.fz
 hi:=f.hi
 small:=f.small
 ys:=⟨f.ys.len,f.ys.lt,f.ys.at_.imp id λ⟨g,off,e,h3,a8⟩=>⟨g,off,e,yaj h3 k.size,λj hj=>by rw[k.cell (p:=⟨g,off+j,none⟩) h3 (λc=>by have bQ:P<g:=aT _ c;have:=f.ne xaa g off e;omega)];exact a8 j hj⟩⟩
 ne:=f.ne
theorem GrS.put{w W aD I P a n cap i bs a1 a2 a3 Y c1 c2 Z c3 ins vs outs}(f:GrS W I P a n cap i bs w.heap.size (.slice a1 Y c1) (.slice a2 vs.length c2) (.slice a3 Z c3) ins vs outs)(S:Kept P (P+1) w W)(k:Kept 0 0 W aD)(v)(aL:v.k<18446744073709551616)(hn:vs.length<=100000):
  Calls prog 32 #[eZ a1 Y c1 a2 vs.length c2 a3 Z c3,v.agg] aD λe af=>∃aG cap',e=.returned (eZ a1 Y c1 (some ⟨aG,0,none⟩) (vs.length+1) cap' a3 Z c3)/\RB af (w.heap.size+1) iR iR iR/\GwO w I P a n cap i bs (.slice a1 Y c1) (.slice a2 vs.length c2) (.slice a3 Z c3) ins vs outs (sv v) (.returned (eZ a1 Y c1 (some ⟨aG,0,none⟩) (vs.length+1) cap' a3 Z c3)) (fB af (w.heap.size+1) (.slice a1 Y c1) (hH aG (vs.length+1) cap') (.slice a3 Z c3)):=by
 have f1:=f.keep k;have F:=f.pb;have C:=f.bq;have cc:=f1.dg.sz;refine(rU aD a1 a2 a3 Y c1 c2 Z c3 I vs v f1.dg.r2 cc xaa).mono ?_;rintro e af ⟨aG,cap',rfl,aT,ad⟩;have g:∀b,(Value.slice a2 vs.length c2).ownBlock=some b->b<w.heap.size/\I<=b:=λb hb=>⟨f.far b (.inr (.inl hb)),(eI f1.dg.r2 hb).1⟩
 have t:(Value.slice a2 vs.length c2).ownBlock=some aG\/aD.heap.size<=aG:=by
  exact xfl
 have G:w.heap.size+1<aD.heap.size:=f1.rs.sz
 have p:aG≠w.heap.size+1:=by
  rcases t with c|c
  ·have:=(g _ c).1;omega
  omega
 have ae:∀o,af.cell? ⟨w.heap.size+1,o,none⟩=aD.cell? ⟨w.heap.size+1,o,none⟩:=λo=>ad.chg.cell (p:=⟨w.heap.size+1,o,none⟩) G (by rintro (c|c);exact c;have bQ:w.heap.size+1<w.heap.size:=(g _ c).1;omega);have a9:∀o,af.frozen? ⟨w.heap.size+1,o,none⟩=aD.frozen? ⟨w.heap.size+1,o,none⟩:=λo=>ad.chg.frozen (p:=⟨w.heap.size+1,o,none⟩) G (by rintro (c|c);exact c;have bQ:w.heap.size+1<w.heap.size:=(g _ c).1;omega);have B:=f1.rs;have K:=ft af (w.heap.size+1) (.slice a1 Y c1) (hH aG (vs.length+1) cap') (.slice a3 Z c3);have j:∀{u:Value}{xs:List Value}{m e s:Nat},aD.ownsRow I e s u m xs->Apart (.slice a2 vs.length c2) u->af.ownsRow I e s u m xs:=λ{u xs m e s} o bK=>fN o ad.chg (by rintro b hb (c|c);exact c;exact bK b c hb);have h:∀{W:World}{u:Value}{xs:List Value}{m e s:Nat}{x y z:Value},W.ownsRow I e s u m xs->u.ownBlock≠some (w.heap.size+1)->(fB W (w.heap.size+1) x y z).ownsRow I e s u m xs:=λo an=>eJ (eJ (eJ o an) an) an;have l:Apart (.slice a2 vs.length c2) (.slice a1 Y c1):=λb hb ai=>f.dg.a12 b ai hb;refine⟨aG,cap',rfl,⟨yaj G ad.chg.size,hU ae B.q0,hU ae B.q1,hU ae B.q2,hU a9 B.f0,hU a9 B.f1,hU a9 B.f2⟩,v,aG,cap',rfl,rfl,⟨?_,?_,?_,?_,f.dg.a13,?_,?_,?_⟩,?_,?_,?_⟩
 ·exact h (j f1.dg.r1 l) (λc=>hR (f.far _ (.inl c)))
 ·have ah:(vs++[v]).length=vs.length+1:=by simp
  rw[ah];exact h aT (λc=>p (by simpa[Value.ownBlock] using c))
 ·exact h (j f1.dg.r3 f.dg.a23) (λc=>by have:=f.far _ (.inr (.inr c));omega)
 ·intro b hb ai;have:b=aG:=by simpa[Value.ownBlock] using ai.symm
  subst this;rcases t with c|c
  ·exact f.dg.a12 _ hb c
  have:=f.far _ (.inl hb);omega
 ·intro b hb ai;have:b=aG:=by simpa[Value.ownBlock] using hb.symm
  subst this;rcases t with c|c
  ·exact f.dg.a23 _ c ai
  have:=f.far _ (.inr (.inr ai));omega
 ·intro u aJ;exact xek
 ·exact yan cc (yan ad.chg.size K.size)
 ·have ay:=rJ f1.rd ad.chg (by rintro b (c|c);exact c.elim;have:=(g b c).2;omega);exact ay.keep K (.inl (hR ay.lt))
 ·have q:=yan S.size k.size;refine⟨K.os.trans (ad.chg.os.trans (k.os.trans S.os)),K.tape.trans (ad.chg.tape.trans (k.tape.trans S.tape)),K.output.trans (ad.chg.output.trans (k.output.trans S.output)),yan q (yan ad.chg.size K.size),λb hb hn=>?_⟩;refine(K.block b (hR ad.chg.size) xaa).trans ?_;rw[ad.chg.block b xaa (by rintro (c|c);exact c;exact hn (.inr c)),k.block b (hR S.size) xaa];exact S.block b hb (λc=>hn (.inl xaa))
 rcases t with c|c
 ·exact .inl c
 exact .inr (hS S.size k.size)
theorem m.qad(h:Zp:=by
 obtain⟨g,bR,ag,ak,a5,bg⟩:=ie t.dg.r2 rfl h;cases ag;exact qea):Zp:=h
theorem m.qeb(h:Zp:=by
 rcases s.o with⟨ap,rfl,rfl⟩|⟨ap,rfl,rfl⟩|⟨ap,rfl,rfl⟩
 all_goals
  clear s
  first|(have ae:(nv bs i:Int)%16=9:=by omega)|(have ae:(nv bs i:Int)%16=11:=by omega)|(have ae:(nv bs i:Int)%16=13:=by omega)
  clear ap
  go_wp2_with fail
  obtain⟨_,ba,aO,aR,_,_,_⟩:=aw.o.bx
  go_region_with (first|(go_at_call 32;refine yai (aP.o _ _ _ _ _ _ _ aw.o HK.o _ ((eF _).trans aM)) ?_;rintro e af ⟨aG,cap',rfl,aB,aX⟩;obtain⟨_,bn,aC,a0,bq,br,bC⟩:=aB)|(go_at_call 34;refine yai (gQ _ _ _ _ _ _) ?_;rintro e aT ⟨rfl,aM⟩;obtain⟨_,s0,ax,aN,_,_,_⟩:=(aw.o.keep ((eF _).trans aM)).bx))
  all_goals
   go_wp2_with fail
   obtain⟨bj,aQ,a6⟩:=fj af (w.heap.size+1) _ _ _ bn aC a0 (.slice a1 Y c1) (hH aG (vs.length+1) cap') (.slice a3 Z c3)
   exact yay (v:=eZ a1 Y c1 (some ⟨aG,0,none⟩) (vs.length+1) cap' a3 Z c3) (by simp[results,results36,go_sem,bj,aQ,a6]) rfl aX):Zp:=h
open m in
theorem ul{a1 a2 a3 Y c1 c2 Z c3}(f:DG w I (.slice a1 Y c1) (.slice a2 vs.length c2) (.slice a3 Z c3) ins vs outs)(C:RdF w P a n cap i bs)(hP:P<I)(hn:vs.length<=100000)(aj:0<vs.length){m}(az:(vd vs (nv bs (ni bs i)%vs.length)).len=m){o l}(O:(nv bs i%16=9/\o=6/\l=m)\/(nv bs i%16=11/\o=9/\l=1)\/(nv bs i%16=13/\o=13/\l=m)):
  Calls prog 36 #[eZ a1 Y c1 a2 vs.length c2 a3 Z c3,hG P] w (GwO w I P a n cap (ni bs (ni bs i)) bs (.slice a1 Y c1) (.slice a2 vs.length c2) (.slice a3 Z c3) ins vs outs ⟨o,l,((nv bs (ni bs i)%vs.length:Nat):Int),0,0,0⟩):=by
 exact qac
end
section
open Go.RowKit Flt
theorem GrS.pick{W I P a n cap i bs Q a1 a2 a3 Y c1 c2 Z c3 ins vs outs}(f:GrS W I P a n cap i bs Q (.slice a1 Y c1) (.slice a2 vs.length c2) (.slice a3 Z c3) ins vs outs)(hn:vs.length<=100000)(q):
  Calls prog 60 #[eZ a1 Y c1 a2 vs.length c2 a3 Z c3,hI q,hG P] W λe W'=>e=.returned (hI (jW vs q (nv bs i)))/\GrS W' I P a n cap (ni bs i) bs Q (.slice a1 Y c1) (.slice a2 vs.length c2) (.slice a3 Z c3) ins vs outs/\Kept P (P+1) W W':=
 (Pf f.dg.r2 rfl hn f.rd f.pb q).mono λ_ _ h=>⟨h.1,f.step h.2.1 h.2.2,h.2.2⟩
end
section
open Go.RowKit Flt
attribute [local go_sem] eG eE eD
variable {w:World}{I P n cap i Y c1 c2 Z c3:Nat}{a a1 a2 a3:Option Addr}{bs ins outs:List Int}{vs:List Vl}{m:Int}
theorem n.qad(h:Zp:=by
 obtain⟨g,bR,ag,ak,a5,bg⟩:=ie t.dg.r2 rfl h;cases ag;exact qea):Zp:=h
theorem n.qeb(h:Zp:=by
 rcases s.o with ap|ap
 all_goals
  replace s:V _:=ap
  clear ap
  first|(have ae:(nv bs i:Int)%16=14:=hR s.o)|(have ae:(nv bs i:Int)%16=15:=hR s.o)
  clear s
  obtain⟨_,ba,aO,aR,_,_,_⟩:=aw.o.bx
  go_wp2_with fail
  refine yai (aw.o.pick hn _) ?_
  rintro e b4 ⟨rfl,z,bZ⟩
  replace HK:V _:=HK.o.trans bZ
  replace aw:V _:=z
  clear z bZ ba aO aR aU
  go_wp2_with fail
  refine yai aw.o.next ?_
  rintro e b1 ⟨rfl,v,bc⟩
  replace HK:V _:=HK.o.trans bc
  replace aw:V _:=v
  clear v bc
  go_wp2_with fail
  obtain⟨_,ba,aO,aR,_,_,_⟩:=aw.o.bx
  go_region_with (first|(go_at_call 32;refine yai (aP.o _ _ _ _ _ _ _ aw.o HK.o _ ((eF _).trans aM)) ?_;rintro e af ⟨aG,cap',rfl,aB,aX⟩;obtain⟨_,bn,aC,a0,bq,br,bC⟩:=aB)|(go_at_call 34;refine yai (gQ _ _ _ _ _ _) ?_;rintro e aT ⟨rfl,aM⟩;obtain⟨_,s0,ax,aN,_,_,_⟩:=(aw.o.keep ((eF _).trans aM)).bx))
  all_goals
   go_wp2_with fail
   obtain⟨bj,aQ,a6⟩:=fj af (w.heap.size+1) _ _ _ bn aC a0 (.slice a1 Y c1) (hH aG (vs.length+1) cap') (.slice a3 Z c3)
   exact yay (v:=eZ a1 Y c1 (some ⟨aG,0,none⟩) (vs.length+1) cap' a3 Z c3) (by simp[results,results36,go_sem,bj,aQ,a6]) rfl aX):Zp:=h
open n in
theorem Ep(f:DG w I (.slice a1 Y c1) (.slice a2 vs.length c2) (.slice a3 Z c3) ins vs outs)(C:RdF w P a n cap i bs)(hP:P<I)(hn:vs.length<=100000)(aj:0<vs.length)(az:(vd vs (nv bs (ni bs i)%vs.length)).len=m)(hb:jW vs 1 (nv bs (ni bs (ni bs i)))<0)(O:nv bs i%16=14\/nv bs i%16=15):
  Calls prog 36 #[eZ a1 Y c1 a2 vs.length c2 a3 Z c3,hG P] w (GwO w I P a n cap ((ni bs (ni bs (ni bs (ni bs i))))) bs (.slice a1 Y c1) (.slice a2 vs.length c2) (.slice a3 Z c3) ins vs outs ⟨9,1,((nv bs (ni bs i)%vs.length:Nat):Int),0,0,0⟩):=by
 have K:=fK C.ys (ni bs (ni bs (ni bs i)));exact qac
theorem o.qad(h:Zp:=by
 obtain⟨g,bR,ag,ak,a5,bg⟩:=ie t.dg.r2 rfl h;cases ag;exact qdr):Zp:=h
theorem o.qds(h:Zp:=by
 exact xck):Zp:=h
theorem o.qfs(h:Zp:=by
 generalize 1+nv bs (ni bs (ni bs (ni bs i)))%4=d at l⊢;have cV:V _:=l;clear l;exact qac):Zp:=h
open o in
theorem Er(f:DG w I (.slice a1 Y c1) (.slice a2 vs.length c2) (.slice a3 Z c3) ins vs outs)(C:RdF w P a n cap i bs)(hP:P<I)(hn:vs.length<=100000)(aj:0<vs.length)(az:(vd vs (nv bs (ni bs i)%vs.length)).len=m)(hb:0<=jW vs 1 (nv bs (ni bs (ni bs i))))(O:nv bs i%16=14):
  Calls prog 36 #[eZ a1 Y c1 a2 vs.length c2 a3 Z c3,hG P] w (GwO w I P a n cap ((ni bs (ni bs (ni bs (ni bs i))))) bs (.slice a1 Y c1) (.slice a2 vs.length c2) (.slice a3 Z c3) ins vs outs ⟨10,((1+nv bs (ni bs (ni bs (ni bs i)))%4:Nat):Int),jW vs 1 (nv bs (ni bs (ni bs i))),0,0,0⟩):=by
 exact qfr
theorem p.qad(h:Zp:=by
 obtain⟨g,bR,ag,ak,a5,bg⟩:=ie t.dg.r2 rfl h;cases ag;exact qdr):Zp:=h
theorem p.qds(h:Zp:=by
 exact xbu):Zp:=h
theorem p.qfs(h:Zp:=by
 have hd0:0<1+nv bs (ni bs (ni bs (ni bs i)))%4/\1+nv bs (ni bs (ni bs (ni bs i)))%4<=4:=xaa;generalize 1+nv bs (ni bs (ni bs (ni bs i)))%4=d at l hd0⊢;have ai:(nv bs (ni bs (ni bs (ni bs (ni bs i)))):Int)%(d:Int)=((nv bs (ni bs (ni bs (ni bs (ni bs i))))%d:Nat):Int):=by rw[Int.natCast_emod]
 have y:nv bs (ni bs (ni bs (ni bs (ni bs i))))%d<d:=Nat.mod_lt _ hd0.1;have ch:=fK C.ys (ni bs (ni bs (ni bs (ni bs i))));generalize nv bs (ni bs (ni bs (ni bs (ni bs i))))%d=c at ai y⊢;have bl:V ((nv bs (ni bs (ni bs (ni bs (ni bs i)))):Int).tmod (d:Int)=c):=(Int.tmod_eq_emod_of_nonneg xaa).trans ai;have cV:V _:=l;clear l ai;exact qac):Zp:=h
open p in
theorem Hw(f:DG w I (.slice a1 Y c1) (.slice a2 vs.length c2) (.slice a3 Z c3) ins vs outs)(C:RdF w P a n cap i bs)(hP:P<I)(hn:vs.length<=100000)(aj:0<vs.length)(az:(vd vs (nv bs (ni bs i)%vs.length)).len=m)(hb:0<=jW vs 1 (nv bs (ni bs (ni bs i))))(O:nv bs i%16=15):
  Calls prog 36 #[eZ a1 Y c1 a2 vs.length c2 a3 Z c3,hG P] w (GwO w I P a n cap (ni bs (ni bs (ni bs (ni bs (ni bs i))))) bs (.slice a1 Y c1) (.slice a2 vs.length c2) (.slice a3 Z c3) ins vs outs ⟨12,((1+nv bs (ni bs (ni bs (ni bs i)))%4:Nat):Int),jW vs 1 (nv bs (ni bs (ni bs i))),0,((nv bs (ni bs (ni bs (ni bs (ni bs i))))%(1+nv bs (ni bs (ni bs (ni bs i)))%4):Nat):Int),0⟩):=by
 exact qfr
theorem aO.qbc(h:Zp:=by
 rcases Nat.eq_zero_or_pos U with bp|bp
 case' inl=>have X:(U:Int)<=0:=xaa
 case' inl=>clear bp
 case' inr=>have ae:(nv bs i:Int)%16=0:=hR s.o
 all_goals
  clear s
  rcases aW.o with⟨bO,aK⟩|⟨bO,bR,aK⟩
 case' inl.inl|inr.inl=>
  have bR:(Y:Int)<=0:=xaa;clear bO
 case' inl.inr|inr.inr=>
  have HO:V (¬(nv bs (ni bs i):Int)%2=1):=by show ¬_;omega
  clear bR;go_wp2_with fail;refine yai aw.o.next ?_;rintro e W2 ⟨rfl,t,ao⟩;replace HK:V _:=HK.o.trans ao;replace aw:V _:=t;clear t ao ba aO aR;have o:=HO.o
 all_goals
  rw[<-aK]at aw
  clear aK aW
  go_wp2_with fail
  refine yai (Nw _ _ _ _ _ _ _ aw.o.rd) ?_
  rintro e b1 ⟨z,rfl,g,b4,cp,bc⟩
  have h:V (sv ⟨1,d,0,0,0,z⟩=⟨1,d,0,0,0,fb (dfV bs p)⟩):=by show _=_;rw[<-g,<-Bn];rfl
  clear g
  replace HK:V _:=HK.o.trans bc
  replace aw:V _:=aw.o.step cp bc
  clear cp bc
  go_wp2_with fail
  refine yai aw.o.next ?_
  rintro e ar ⟨rfl,B,b6⟩
  replace HK:V _:=HK.o.trans b6
  replace aw:V _:=B
  clear B b6
  have l:=cV.o
  have cd:V _:=b4
  clear b4
  obtain⟨_,bM,aZ,be,_,_,_⟩:=aw.o.bx
  go_wp2_with fail
  refine yai (aP.o _ _ ⟨1,d,0,0,0,z⟩ aw.o HK.o _ hQ cd.o) ?_
  rintro e af ⟨aG,cap',rfl,aB,aX⟩
  obtain⟨_,bn,aC,a0,bq,br,bC⟩:=aB
  go_wp2_with fail
  obtain⟨bj,aQ,a6⟩:=fj af (w.heap.size+1) _ _ _ bn aC a0 (.slice a1 Y c1) (hH aG (U+1) cap') (.slice a3 Z c3)
  exact yay (v:=eZ a1 Y c1 (some ⟨aG,0,none⟩) (U+1) cap' a3 Z c3) (by simp[results,results36,go_sem,bj,aQ,a6]) rfl (h.o ▸ aX)):Zp:=h
open aO in
theorem um(f:DG w I (.slice a1 Y c1) (.slice a2 vs.length c2) (.slice a3 Z c3) ins vs outs)(C:RdF w P a n cap i bs)(hP:P<I)(hn:vs.length<=100000){p}(aK:(Y=0/\p=ni bs i)\/(0<Y/\nv bs (ni bs i)%2≠1/\p=ni bs (ni bs i)))(O:nv bs i%16=0\/vs.length=0):
  Calls prog 36 #[eZ a1 Y c1 a2 vs.length c2 a3 Z c3,hG P] w (GwO w I P a n cap (ni bs (dfI bs p)) bs (.slice a1 Y c1) (.slice a2 vs.length c2) (.slice a3 Z c3) ins vs outs ⟨1,((1+nv bs (dfI bs p)%4:Nat):Int),0,0,0,fb (dfV bs p)⟩):=by
 have l:(1:Int)+(nv bs (dfI bs p):Int)%4=((1+nv bs (dfI bs p)%4:Nat):Int):=xaa;have K:=fK C.ys (dfI bs p);generalize 1+nv bs (dfI bs p)%4=d at l⊢;have cV:V _:=l;have aW:V _:=aK;clear l aK;exact qbb
end
section
open Go.RowKit Flt Ieee
variable {us r:List Vl}
theorem N0{q}(h:q<us.length):vd (us++r) q=vd us q:=by
 unfold vd;exact xji
theorem N1(q):vd (us++r) (us.length+q)=vd r q:=by
 unfold vd;rw[yah,yar xaa,Nat.add_sub_cancel_left,<-yah]
