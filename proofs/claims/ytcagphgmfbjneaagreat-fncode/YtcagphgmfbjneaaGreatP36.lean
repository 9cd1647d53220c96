import Derived.Test.YtcagphgmfbjneaaGreatP35
import Derived.Test.YtcagphgmfbjneaaGreatP34
namespace Go.Proofs.Z
variable{Zp:Prop}
open Tryz Go.RowKit Flt
set_option maxRecDepth 1000000
set_option maxHeartbeats 0
section
attribute[local go_sem] eE eD eC
variable{I P n cap i Z c1 c2 ab c3:Nat}{a a1 J a3:Option Addr}{bs ins outs:List Int}{vs:List Vl}
theorem q.qad(h:Zp:=by
 obtain⟨g,b7,az,aw,bC,bw⟩:=gO t.dg.r2 rfl u;cases az;exact qdw):Zp:=h
theorem q.qdx(h:Zp:=by
 rcases b.o with aj|aj
 all_goals
  replace b:V _:=aj
  clear aj
  first|(have G:(nv bs i:Int)%16=14:=ix b.o)|(have G:(nv bs i:Int)%16=15:=ix b.o)
  clear b
  obtain⟨_,aP,ay,aB,_,_,_⟩:=au.o.bx
  go_wp2_with fail
  refine yaj (au.o.pick ag _) ?_
  rintro e cc ⟨rfl,h,bW⟩
  replace HK:V _:=HK.o.trans bW
  replace au:V _:=h
  clear h bW aP ay aB aJ
  go_wp2_with fail
  refine yaj au.o.next ?_
  rintro e ca ⟨rfl,v,a2⟩
  replace HK:V _:=HK.o.trans a2
  replace au:V _:=v
  clear v a2
  go_wp2_with fail
  obtain⟨_,aP,ay,aB,_,_,_⟩:=au.o.bx
  go_region_with (first|(go_at_call 78;refine yaj (aD.o _ _ _ _ _ _ _ au.o HK.o _ ((eF _).trans aZ)) ?_;rintro e am ⟨aC,cap',rfl,a0,aH⟩;obtain⟨_,bq,aq,aT,bR,bS,bT⟩:=a0)|(go_at_call 79;refine yaj (gG _ _ _ _ _ _) ?_;rintro e aU ⟨rfl,aZ⟩;obtain⟨_,aY,ar,aW,_,_,_⟩:=(au.o.keep ((eF _).trans aZ)).bx))
  all_goals
   go_wp2_with fail
   obtain⟨bl,aS,a9⟩:=fd am (w.heap.size+1) _ _ _ bq aq aT (.slice a1 Z c1) (h0 aC (vs.length+1) cap') (.slice a3 ab c3)
   exact yaz (v:=eX a1 Z c1 (some ⟨aC,0,none⟩) (vs.length+1) cap' a3 ab c3) (by simp[results,results81,go_sem,bl,aS,a9]) rfl aH):Zp:=h
open q in
theorem EA{w}(f:DG w I (.slice a1 Z c1) (.slice J vs.length c2) (.slice a3 ab c3) ins vs outs)(K:RdF w P a n cap i bs)(hP:P<I)(ag:vs.length<=100000)(ak:0<vs.length){m}(ao:(vd vs (nv bs (ni bs i)%vs.length)).len=m)(hb:jg vs 1 (nv bs (ni bs (ni bs i)))<0)(O:nv bs i%16=14\/nv bs i%16=15):
  Calls prog 81 #[eX a1 Z c1 J vs.length c2 a3 ab c3,hZ P] w (GwO w I P a n cap ((ni bs (ni bs (ni bs (ni bs i))))) bs (.slice a1 Z c1) (.slice J vs.length c2) (.slice a3 ab c3) ins vs outs ⟨9,1,((nv bs (ni bs i)%vs.length:Nat):Int),0,0,0⟩):=by
 have aF:=fp K.ys (ni bs (ni bs (ni bs i)));exact qac
theorem r.qad(h:Zp:=by
 obtain⟨g,b7,az,aw,bC,bw⟩:=gO t.dg.r2 rfl u;cases az;exact qdp):Zp:=h
theorem r.qdq(h:Zp:=by
 exact xbu):Zp:=h
theorem r.qff(h:Zp:=by
 generalize 1+nv bs (ni bs (ni bs (ni bs i)))%4=d at l⊢;have cO:V _:=l;clear l;exact qac):Zp:=h
open r in
theorem EB{w}(f:DG w I (.slice a1 Z c1) (.slice J vs.length c2) (.slice a3 ab c3) ins vs outs)(K:RdF w P a n cap i bs)(hP:P<I)(ag:vs.length<=100000)(ak:0<vs.length){m}(ao:(vd vs (nv bs (ni bs i)%vs.length)).len=m)(hb:0<=jg vs 1 (nv bs (ni bs (ni bs i))))(O:nv bs i%16=14):
  Calls prog 81 #[eX a1 Z c1 J vs.length c2 a3 ab c3,hZ P] w (GwO w I P a n cap ((ni bs (ni bs (ni bs (ni bs i))))) bs (.slice a1 Z c1) (.slice J vs.length c2) (.slice a3 ab c3) ins vs outs ⟨10,((1+nv bs (ni bs (ni bs (ni bs i)))%4:Nat):Int),jg vs 1 (nv bs (ni bs (ni bs i))),0,0,0⟩):=by
 exact qfe
end
section
variable{bs ins:List Int}{vs:List Vl}
def opT(k:Nat):Int:=[0,2,3,4,5,7,4,2,3].getD k 0
def gwM(ins:List Int)(vs:List Vl)(bs:List Int)(i:Nat):Vl×Nat:=
 if nv bs i%16=0\/vs.length=0 then
  if 0<ins.length/\nv bs (ni bs i)%2=1 then (⟨0,ins.getD (nv bs (ni bs (ni bs i))%ins.length) 0,((nv bs (ni bs (ni bs i))%ins.length:Nat):Int),0,0,0⟩,ni bs (ni bs (ni bs i)))
  else (⟨1,((1+nv bs (dfI bs (if 0<ins.length then ni bs (ni bs i)else ni bs i))%4:Nat):Int),0,0,0,fb (dfV bs (if 0<ins.length then ni bs (ni bs i)else ni bs i))⟩,ni bs (dfI bs (if 0<ins.length then ni bs (ni bs i)else ni bs i)))
 else if nv bs i%16<9 then (⟨opT (nv bs i%16),(vd vs (nv bs (ni bs i)%vs.length)).len,((nv bs (ni bs i)%vs.length:Nat):Int),jg vs (vd vs (nv bs (ni bs i)%vs.length)).len (nv bs (ni bs (ni bs i))),0,0⟩,ni bs (ni bs (ni bs i)))
 else if nv bs i%16=9 then (⟨6,(vd vs (nv bs (ni bs i)%vs.length)).len,((nv bs (ni bs i)%vs.length:Nat):Int),0,0,0⟩,ni bs (ni bs i))
 else if nv bs i%16=10 then (⟨8,(vd vs (nv bs (ni bs i)%vs.length)).len,((nv bs (ni bs i)%vs.length:Nat):Int),jg vs (vd vs (nv bs (ni bs i)%vs.length)).len (nv bs (ni bs (ni bs i))),jg vs (vd vs (nv bs (ni bs i)%vs.length)).len (nv bs (ni bs (ni bs (ni bs i)))),0⟩,ni bs (ni bs (ni bs (ni bs i))))
 else if nv bs i%16=11 then (⟨9,1,((nv bs (ni bs i)%vs.length:Nat):Int),0,0,0⟩,ni bs (ni bs i))
 else if nv bs i%16=12 then (⟨11,1,((nv bs (ni bs i)%vs.length:Nat):Int),0,((nv bs (ni bs (ni bs i))%(vd vs (nv bs (ni bs i)%vs.length)).len.toNat:Nat):Int),0⟩,ni bs (ni bs (ni bs i)))
 else if nv bs i%16=13 then (⟨13,(vd vs (nv bs (ni bs i)%vs.length)).len,((nv bs (ni bs i)%vs.length:Nat):Int),0,0,0⟩,ni bs (ni bs i))
 else if jg vs 1 (nv bs (ni bs (ni bs i)))<0 then (⟨9,1,((nv bs (ni bs i)%vs.length:Nat):Int),0,0,0⟩,ni bs (ni bs (ni bs (ni bs i))))
 else if nv bs i%16=14 then (⟨10,((1+nv bs (ni bs (ni bs (ni bs i)))%4:Nat):Int),jg vs 1 (nv bs (ni bs (ni bs i))),0,0,0⟩,ni bs (ni bs (ni bs (ni bs i))))
 else (⟨12,((1+nv bs (ni bs (ni bs (ni bs i)))%4:Nat):Int),jg vs 1 (nv bs (ni bs (ni bs i))),0,((nv bs (ni bs (ni bs (ni bs (ni bs i))))%(1+nv bs (ni bs (ni bs (ni bs i)))%4):Nat):Int),0⟩,ni bs (ni bs (ni bs (ni bs (ni bs i)))))
theorem Nb{w I P a n cap i a1 J a3 Z c1 c2 ab c3 outs}(f:DG w I (.slice a1 Z c1) (.slice J vs.length c2) (.slice a3 ab c3) ins vs outs)(K:RdF w P a n cap i bs)(hP:P<I)(ag:vs.length<=100000)(bV:∀k,k<vs.length->1<=(vd vs k).len/\(vd vs k).len<=1000):
  Calls prog 81 #[eX a1 Z c1 J vs.length c2 a3 ab c3,hZ P] w (GwO w I P a n cap (gwM ins vs bs i).2 bs (.slice a1 Z c1) (.slice J vs.length c2) (.slice a3 ab c3) ins vs outs (gwM ins vs bs i).1):=by
 have af:Z=ins.length:=gZ f.r1;unfold gwM;by_cases ak:nv bs i%16=0\/vs.length=0
 ·rw[h7 ak];by_cases F:0<ins.length/\nv bs (ni bs i)%2=1
  ·rw[h7 F];have:=Lv f K hP ag xaa F.2 ak;rw[af]at this⊢;exact this
  rw[h6 F];by_cases h2:0<ins.length
  ·rw[h7 h2];exact uQ f K hP ag (.inr ⟨by omega,λc=>F ⟨h2,c⟩,rfl⟩) ak
  rw[h6 h2];exact uQ f K hP ag (.inl ⟨by omega,rfl⟩) ak
 rw[h6 ak];have aN:0<vs.length:=xaa;have ap:nv bs i%16<16:=Nat.mod_lt _ xaa;have ao:=bV _ (Nat.mod_lt (nv bs (ni bs i)) aN);by_cases bp:nv bs i%16<9
 ·rw[h7 bp];refine Il f K hP ag aN rfl ?_;rcases (by omega:nv bs i%16=1\/nv bs i%16=2\/nv bs i%16=3\/nv bs i%16=4\/nv bs i%16=5\/nv bs i%16=6\/nv bs i%16=7\/nv bs i%16=8) with e|e|e|e|e|e|e|e
  all_goals (rw[e];decide)
 rw[h6 bp];by_cases c:nv bs i%16=9
 ·rw[h7 c];exact uP f K hP ag aN rfl (.inl ⟨c,rfl,rfl⟩)
 rw[h6 c];by_cases c:nv bs i%16=10
 ·rw[h7 c];exact Ij f K hP ag aN rfl c
 rw[h6 c];by_cases c:nv bs i%16=11
 ·rw[h7 c];exact uP f K hP ag aN rfl (.inr (.inl ⟨c,rfl,rfl⟩))
 rw[h6 c];by_cases c:nv bs i%16=12
 ·rw[h7 c];exact Ez f K hP ag aN xaa xaa xaa c
 rw[h6 c];by_cases c:nv bs i%16=13
 ·rw[h7 c];exact uP f K hP ag aN rfl (.inr (.inr ⟨c,rfl,rfl⟩))
 rw[h6 c];by_cases b:jg vs 1 (nv bs (ni bs (ni bs i)))<0
 ·rw[h7 b];exact EA f K hP ag aN rfl b xaa
 rw[h6 b];by_cases c:nv bs i%16=14
 ·rw[h7 c];exact EB f K hP ag aN rfl xaa c
 rw[h6 c];exact Ih f K hP ag aN rfl xaa xaa
theorem CV(vs j):(vd (vs.map sv) j).len=(vd vs j).len:=by
 exact xhh
theorem AB(vs q fr):∀m k,mr (vs.map sv) q fr m k=mr vs q fr m k
 |0,_=>rfl
 |m+1,k=>by
  rw[mr,mr,AB vs q fr m (k+1),List.length_map]
  grind[CV]
theorem Im(vs q fr):jg (vs.map sv) q fr=jg vs q fr:=by
 grind[jg,AB]
theorem In(ins vs bs i):gwM ins (vs.map sv) bs i=gwM ins vs bs i:=by
 grind[gwM,CV,Im]
theorem qZ{i}(hi:∀k,k<ins.length->1<=ins.getD k 0/\ins.getD k 0<=1000)(bV:∀k,k<vs.length->1<=(vd vs k).len/\(vd vs k).len<=1000):1<=(gwM ins vs bs i).1.len/\(gwM ins vs bs i).1.len<=1000:=by
 unfold gwM;by_cases ak:nv bs i%16=0\/vs.length=0
 ·rw[h7 ak];split
  ·rename_i F;exact hi _ (Nat.mod_lt _ F.1)
  grind
 rw[h6 ak];have ao:=bV _ (Nat.mod_lt (nv bs (ni bs i)) (by omega:0<vs.length));repeat' split
 all_goals (simp only;omega)
end
section
attribute[local go_sem] eE eD eC
variable{C H:World}{p P I n cap i Z m c1 g c2 c ab c3 N:Nat}{bL U aV u1 u2 u3:Value}{a a1 J a3:Option Addr}{bs ins outs G l:List Int}{vs aU:List Vl}
theorem fR(w){bW rest o a Q}(au:o.guard=none)(s x)
  (ho:o.op=.call {callee:=.builtin .append,args:=#[s,x],argTypes:=#[23,23]})
  (I) (v) (bw) (aw:a.eval s=v) (bq:w.ownsRow I 3 1 v bw.length (bw.map (Value.int .i64)))
  (av) (y) (ap:a.eval x=.slice (some av) 1 1) (d:w.cell? av=some (h1 y))
  (f:bw.length+1<=1000000) (ae:I<=w.heap.size)
  (h:∀g cap n B,n=(bw++[y]).length->B.ownsRow I 3 1 (h0 g n cap) n ((bw++[y]).map (Value.int .i64))->Chg (λb=>v.ownBlock=some b) w B->(v.ownBlock=some g\/g=w.heap.size)->wpList prog bW Q rest (a.put o.dst (h0 g n cap)) B):wpList prog bW Q (o::rest) a w:=by
 obtain⟨b1,hi,hz0,hz1,hz2⟩:=info_parts rZ;refine wpList_append_lies w au s x _ ho I 3 _ _ 1 8 underlying23 hi hz0 hz1 hz2 rfl xab v _ _ aw bq _ 1 1 [h1 y] ap rfl ?_ ?_ xab (by unfold maxLen;omega) xaa ae _ rfl ?_
 ·grind[Addr.add]
 ·intro u a6;simp at a6;subst a6;rfl
 intro g cap B F h2 h3 _;have e:bw.length+1=(bw++[y]).length:=by grind
 rw[e]at F⊢;refine h g _ _ _ rfl ?_ (fT h2) h3;grind
structure Dx(w0 W:World)(P:Nat)(a:Option Addr)(n cap i:Nat)(bs:List Int)(u1 u2 u3:Value)(ins:List Int)(vs:List Vl)(outs:List Int):Prop where
 rd:RdF W P a n cap i bs
 dg:DG W (w0.heap.size+2) u1 u2 u3 ins vs outs
 bx:RB W (w0.heap.size+1) u1 u2 u3
 rs:RB W w0.heap.size iR iR iR
 p0:P<w0.heap.size
 k0:Kept P (P+1) w0 W
theorem Dx.step{W}(f:Dx C W P a n cap i bs u1 u2 u3 ins vs outs)(K:RdF H P a n cap N bs)(k:Kept P (P+1) W H):Dx C H P a n cap N bs u1 u2 u3 ins vs outs:=
 ⟨K,f.dg.kept k (ix f.p0),f.bx.kept k (ix f.p0),f.rs.kept k (ix f.p0),f.p0,f.k0.trans k⟩
theorem Dx.keep{W}(f:Dx C W P a n cap i bs u1 u2 u3 ins vs outs)(k:Kept 0 0 W H):Dx C H P a n cap i bs u1 u2 u3 ins vs outs:=f.step (f.rd.keep0 k) (e8 k)
theorem Dx.next{W}(f:Dx C W P a n cap i bs u1 u2 u3 ins vs outs):
  Calls prog 14 #[hZ P] W λe H=>e=.returned (h1 (nv bs i:Int))/\Dx C H P a n cap (ni bs i) bs u1 u2 u3 ins vs outs:=
 (iw W P a n cap i bs f.rd).mono λ_ _ q=>⟨q.1,f.step q.2.1 q.2.2.1⟩
theorem Dx.start(K:RdF C P a n cap i bs):Dx C ((C.alloc fH).alloc fH) P a n cap i bs iR iR iR [] [] []:=by
 have an:=eA 0 0 C fH;have av:=eA 0 0 (C.alloc fH) fH;have hb:=iW (C.alloc fH);rw[show(C.alloc _).heap.size=C.heap.size+1 by simp]at hb;refine⟨K.keep0 (an.trans av),⟨yaw _ _ _ _,yaw _ _ _ _,yaw _ _ _ _,?_,?_,?_,?_,by simp⟩,hb,(iW _).keep av,K.lt,e8 (an.trans av)⟩
 ·intro b h;cases h
 ·intro b h;cases h
 ·intro b h;cases h
 grind
theorem Dx.set{W bo ba bb bc S}(f:Dx C W P a n cap i bs u1 u2 u3 ins vs outs)(c:Chg S W H)(a2:∀b,S b->b=P\/C.heap.size+2<=b)(K:RdF H P a n cap N bs)(aO:DG H (C.heap.size+2) ba bb bc G aU l)(k:Kept (C.heap.size+1) (C.heap.size+1+1) H bo)(hb:RB bo (C.heap.size+1) ba bb bc):Dx C bo P a n cap N bs ba bb bc G aU l:=by
 have aQ:=f.p0;have e:∀o,_:=λo=>c.cell (p:=⟨C.heap.size,o,none⟩) f.rs.sz (λq=>by grind);have x:∀o,_:=λo=>c.frozen (p:=⟨C.heap.size,o,none⟩) f.rs.sz (λq=>by grind);have aF:RB H _ _ _ _:=⟨yak f.rs.sz c.size,i1 e f.rs.q0,i1 e f.rs.q1,i1 e f.rs.q2,i1 x f.rs.f0,i1 x f.rs.f1,i1 x f.rs.f2⟩
 refine⟨K.keep k (.inl xaa),aO.kept k xaa,hb,aF.kept k xaa,aQ,⟨k.os.trans (c.os.trans f.k0.os),k.tape.trans (c.tape.trans f.k0.tape),k.output.trans (c.output.trans f.k0.output),yao f.k0.size (yao c.size k.size),λb hb ag=>?_⟩⟩;have F:=f.k0.size;have h2:=c.size;rw[k.block b xaa xaa,c.block b xaa (λq=>by grind)];exact f.k0.block b hb ag
theorem pA{W}(t:RB W p bL U aV)(x y z):RB (fg W p x y z) p x y z:=by
 obtain⟨bh,aJ,y2⟩:=fd W p _ _ _ t.q0 t.q1 t.q2 x y z;have k:=fk W p x y z;refine⟨yak t.sz k.size,bh,aJ,y2,?_,?_,?_⟩
 ·unfold fg;simp[t.f0]
 ·unfold fg;simp[t.f1]
 unfold fg;simp[t.f2]
theorem yC{W}(t:RB W p bL U aV)(x):RB (W.setCell ⟨p,0,none⟩ x) p x U aV/\RB (W.setCell ⟨p,2,none⟩ x) p bL U x:=by
 refine⟨⟨by simpa using t.sz,fy _ _ _ _ _ t.q0,by rw[eV _ _ _ _ _ _ (.inr xaa)];exact t.q1,by rw[eV _ _ _ _ _ _ (.inr xaa)];exact t.q2,by simp[t.f0],by simp[t.f1],by simp[t.f2]⟩,⟨by simpa using t.sz,by rw[eV _ _ _ _ _ _ (.inr xaa)];exact t.q0,by rw[eV _ _ _ _ _ _ (.inr xaa)];exact t.q1,fy _ _ _ _ _ t.q2,by simp[t.f0],by simp[t.f1],by simp[t.f2]⟩⟩
theorem DG.vals{W}(f:DG W I u1 u2 u3 ins vs outs)(bp:Chg (λb=>u2.ownBlock=some b) W H)(ho:H.ownsRow I 86 6 (h0 g m c) m (fN aU))(ao:m=aU.length)(aK:u2.ownBlock=some g\/W.heap.size<=g)(O:∀v∈aU,v.k<18446744073709551616):DG H I u1 (h0 g m c) u3 ins aU outs:=by
 subst ao;refine⟨fe f.r1 bp λb hb al=>f.a12 b hb al,ho,fe f.r3 bp λb hb al=>f.a23 b al hb,?_,f.a13,?_,O,yao f.sz bp.size⟩
 ·intro b hb al;have e:b=g:=by simpa[Value.ownBlock] using al.symm
  subst e;rcases aK with c|c
  ·exact f.a12 _ hb c
  have:=(eG f.r1 hb).2;omega
 intro b hb al;have e:b=g:=by simpa[Value.ownBlock] using hb.symm
 subst e;rcases aK with c|c
 ·exact f.a23 _ c al
 have:=(eG f.r3 al).2;omega
theorem DG.ins_{W}(f:DG W I u1 u2 u3 ins vs outs)(bp:Chg (λb=>u1.ownBlock=some b) W H)(ho:H.ownsRow I 3 1 (h0 g m c) m (G.map (Value.int .i64)))(ao:m=G.length)(aK:u1.ownBlock=some g\/W.heap.size<=g):DG H I (h0 g m c) u2 u3 G vs outs:=by
 subst ao;refine⟨ho,fe f.r2 bp λb hb al=>f.a12 b al hb,fe f.r3 bp λb hb al=>f.a13 b al hb,?_,?_,f.a23,f.k,yao f.sz bp.size⟩
 ·intro b hb al;have e:b=g:=by simpa[Value.ownBlock] using hb.symm
  subst e;rcases aK with c|c
  ·exact f.a12 _ c al
  have:=(eG f.r2 al).2;omega
 intro b hb al;have e:b=g:=by simpa[Value.ownBlock] using hb.symm
 subst e;rcases aK with c|c
 ·exact f.a13 _ c al
 have:=(eG f.r3 al).2;omega
theorem DG.outs_{W}(f:DG W I u1 u2 u3 ins vs outs)(bp:Chg (λb=>u3.ownBlock=some b) W H)(ho:H.ownsRow I 3 1 (h0 g m c) m (l.map (Value.int .i64)))(ao:m=l.length)(aK:u3.ownBlock=some g\/W.heap.size<=g):DG H I u1 u2 (h0 g m c) ins vs l:=by
 subst ao;refine⟨fe f.r1 bp λb hb al=>f.a13 b hb al,fe f.r2 bp λb hb al=>f.a23 b hb al,ho,f.a12,?_,?_,f.k,yao f.sz bp.size⟩
 ·intro b hb al;have e:b=g:=by simpa[Value.ownBlock] using al.symm
  subst e;rcases aK with c|c
  ·exact f.a13 _ hb c
  have:=(eG f.r1 hb).2;omega
 intro b hb al;have e:b=g:=by simpa[Value.ownBlock] using al.symm
 subst e;rcases aK with c|c
 ·exact f.a23 _ hb c
 have:=(eG f.r2 hb).2;omega
theorem aH.qbc(h:Zp:=by
 have hb:=jk f1.bx bp (λc=>ix (a7 _ c));exact⟨_,_,rfl,hb,f1.set bp (λb hb=>.inr (a7 b hb)) (nC f1.rd bp λb hb=>ix (a7 b hb)) (f1.dg.vals bp bq xac aK O) (fk _ _ _ _ _) (pA hb _ _ _)⟩):Zp:=h
open aH in
theorem Dx.put{W ax}(f:Dx C W P a n cap i bs (.slice a1 Z c1) (.slice J vs.length c2) (.slice a3 ab c3) ins vs outs)(k:Kept 0 0 W ax)(v)(aN:v.k<18446744073709551616)(ag:vs.length<=100000):
  Calls prog 78 #[eX a1 Z c1 J vs.length c2 a3 ab c3,v.agg] ax λe am=>∃aC cap',e=.returned (eX a1 Z c1 (some ⟨aC,0,none⟩) (vs.length+1) cap' a3 ab c3)/\RB am (C.heap.size+1) (.slice a1 Z c1) (.slice J vs.length c2) (.slice a3 ab c3)/\Dx C (fg am (C.heap.size+1) (.slice a1 Z c1) (h0 aC (vs.length+1) cap') (.slice a3 ab c3)) P a n cap i bs (.slice a1 Z c1) (h0 aC (vs.length+1) cap') (.slice a3 ab c3) ins (vs++[v]) outs:=by
 have f1:=f.keep k;have aQ:=f.p0;refine(sj _ _ _ _ _ _ _ _ _ _ _ v f1.dg.r2 f1.dg.sz xaa).mono ?_;rintro e am ⟨aC,cap',rfl,bq,aw⟩;have a7:∀b,(Value.slice J _ _).ownBlock=some b->_:=λb hb=>(eG f1.dg.r2 hb).1;exact qbb
theorem Dx.grow{W}(f:Dx C W P a n cap i bs (.slice a1 Z c1) (.slice J vs.length c2) (.slice a3 ab c3) ins vs outs)(ag:vs.length<=100000)(bV:∀k,k<vs.length->1<=(vd vs k).len/\(vd vs k).len<=1000):
  Calls prog 81 #[eX a1 Z c1 J vs.length c2 a3 ab c3,hZ P] W λe am=>∃v aC cap',e=.returned (eX a1 Z c1 (some ⟨aC,0,none⟩) (vs.length+1) cap' a3 ab c3)/\sv v=(gwM ins vs bs i).1/\RB am (C.heap.size+1) (.slice a1 Z c1) (.slice J vs.length c2) (.slice a3 ab c3)/\Dx C (fg am (C.heap.size+1) (.slice a1 Z c1) (h0 aC (vs.length+1) cap') (.slice a3 ab c3)) P a n cap (gwM ins vs bs i).2 bs (.slice a1 Z c1) (h0 aC (vs.length+1) cap') (.slice a3 ab c3) ins (vs++[v]) outs:=by
 have aQ:=f.p0;refine(Nb f.dg f.rd xaa ag bV).mono ?_;rintro e am ⟨v,aC,cap',rfl,aw,aO,aF,al,aK⟩;have a7:∀b,(Value.slice J vs.length c2).ownBlock=some b->C.heap.size+2<=b:=λb hb=>(eG f.dg.r2 hb).1;have hb:=jk f.bx al (by grind);exact⟨v,aC,cap',rfl,aw,hb,f.set al (by simp_all) aF aO (fk _ _ _ _ _) (pA hb _ _ _)⟩
theorem Dx.ins_{W x}(f:Dx C W P a n cap i bs u1 u2 u3 ins vs outs)(bp:Chg (λb=>u1.ownBlock=some b) W H)(ho:H.ownsRow (C.heap.size+2) 3 1 (h0 g m c) m ((ins++[x]).map (Value.int .i64)))(ao:m=(ins++[x]).length)(aK:u1.ownBlock=some g\/g=W.heap.size):Dx C (H.setCell ⟨C.heap.size+1,0,none⟩ (h0 g m c)) P a n cap i bs (h0 g m c) u2 u3 (ins++[x]) vs outs:=by
 have aQ:=f.p0;have a7:∀b,u1.ownBlock=some b->_:=λb hb=>(eG f.dg.r1 hb).1;have hb:=jk f.bx bp (λc=>by grind);exact f.set bp (λb hb=>.inr (a7 b hb)) (nC f.rd bp λb hb=>by grind) (f.dg.ins_ bp ho ao (aK.imp id λe=>Nat.le_of_eq e.symm)) (eU _ _ _ yac) (yC hb _).1
theorem Dx.outs_{W x}(f:Dx C W P a n cap i bs u1 u2 u3 ins vs outs)(bp:Chg (λb=>u3.ownBlock=some b) W H)(ho:H.ownsRow (C.heap.size+2) 3 1 (h0 g m c) m ((outs++[x]).map (Value.int .i64)))(ao:m=(outs++[x]).length)(aK:u3.ownBlock=some g\/g=W.heap.size):Dx C (H.setCell ⟨C.heap.size+1,2,none⟩ (h0 g m c)) P a n cap i bs u1 u2 (h0 g m c) ins vs (outs++[x]):=by
 have aQ:=f.p0;have a7:∀b,u3.ownBlock=some b->_:=λb hb=>(eG f.dg.r3 hb).1;have hb:=jk f.bx bp (λc=>by grind);exact f.set bp (λb hb=>.inr (a7 b hb)) (nC f.rd bp λb hb=>by grind) (f.dg.outs_ bp ho ao (aK.imp id λe=>Nat.le_of_eq e.symm)) (eU _ _ _ yac) (yC hb _).2
