import Derived.Test.YtcjhlkdleojbjaaGreatP40
import Derived.Test.YtcjhlkdleojbjaaGreatP35
import Derived.Test.YtcjhlkdleojbjaaGreatP36
namespace Go.Proofs.Z
variable{Zp:Prop}
open Tryz Go.RowKit Flt
set_option maxRecDepth 1000000
set_option maxHeartbeats 0
section
attribute[local go_sem] eF eE eD
variable{J P n cap i Z c1 c2 ab c3:Nat}{a a1 U a3:Option Addr}{bs ins outs:List Int}{vs:List Vl}
theorem e.qab(h:Zp:=by
 obtain⟨g,ce,aK,ai,b8,a7⟩:=jN h.dg.r2 rfl X;cases aK;exact qdo):Zp:=h
theorem e.qdp(h:Zp:=by
 rcases G.o with aj|aj
 all_goals
  replace G:E _:=aj
  clear aj
  first|(have u:(nv bs i:Int)%16=14:=hJ G.o)|(have u:(nv bs i:Int)%16=15:=hJ G.o)
  clear G
  obtain⟨_,aY,aC,aL,_,_,_⟩:=ao.o.bx
  go_wp2_with fail
  refine yaj (ao.o.pick ad _) ?_
  rintro e bc ⟨rfl,z,bM⟩
  replace HK:E _:=HK.o.trans bM
  replace ao:E _:=z
  clear z bM aY aC aL aP
  go_wp2_with fail
  refine yaj ao.o.next ?_
  rintro e aW ⟨rfl,v,bQ⟩
  replace HK:E _:=HK.o.trans bQ
  replace ao:E _:=v
  clear v bQ
  go_wp2_with fail
  obtain⟨_,aY,aC,aL,_,_,_⟩:=ao.o.bx
  go_region_with (first|(go_at_call 44;refine yaj (HF.o _ _ _ _ _ _ _ ao.o HK.o _ ((eG _).trans aR)) ?_;rintro e ag ⟨aq,cap',rfl,aA,av⟩;obtain⟨_,br,ay,a0,bZ,b5,b6⟩:=aA)|(go_at_call 46;refine yaj (ij _ _ _ _ _ _) ?_;rintro e aB ⟨rfl,aR⟩;obtain⟨_,aZ,ax,aU,_,_,_⟩:=(ao.o.keep ((eG _).trans aR)).bx))
  all_goals
   go_wp2_with fail
   obtain⟨bn,aX,bb⟩:=fp ag (w.heap.size+1) _ _ _ br ay a0 (.slice a1 Z c1) (hz aq (vs.length+1) cap') (.slice a3 ab c3)
   exact yaz (v:=eZ a1 Z c1 (some ⟨aq,0,none⟩) (vs.length+1) cap' a3 ab c3) (by simp[results,results48,go_sem,bn,aX,bb]) rfl av):Zp:=h
open e in
theorem Fd{w}(f:DG w J (.slice a1 Z c1) (.slice U vs.length c2) (.slice a3 ab c3) ins vs outs)(K:RdF w P a n cap i bs)(hP:P<J)(ad:vs.length<=100000)(al:0<vs.length){m}(am:(vd vs (nv bs (ni bs i)%vs.length)).len=m)(hb:jC vs 1 (nv bs (ni bs (ni bs i)))<0)(O:nv bs i%16=14\/nv bs i%16=15):
  Calls prog 48 #[eZ a1 Z c1 U vs.length c2 a3 ab c3,hy P] w (GwO w J P a n cap ((ni bs (ni bs (ni bs (ni bs i))))) bs (.slice a1 Z c1) (.slice U vs.length c2) (.slice a3 ab c3) ins vs outs ⟨9,1,((nv bs (ni bs i)%vs.length:Nat):Int),0,0,0⟩):=by
 have aT:=ib K.ys (ni bs (ni bs (ni bs i)));exact qaa
theorem f.qab(h:Zp:=by
 obtain⟨g,ce,aK,ai,b8,a7⟩:=jN h.dg.r2 rfl X;cases aK;exact qdf):Zp:=h
theorem f.qdg(h:Zp:=by
 exact xbm):Zp:=h
theorem f.qex(h:Zp:=by
 generalize 1+nv bs (ni bs (ni bs (ni bs i)))%4=d at l⊢;have cw:E _:=l;clear l;exact qaa):Zp:=h
open f in
theorem Fe{w}(f:DG w J (.slice a1 Z c1) (.slice U vs.length c2) (.slice a3 ab c3) ins vs outs)(K:RdF w P a n cap i bs)(hP:P<J)(ad:vs.length<=100000)(al:0<vs.length){m}(am:(vd vs (nv bs (ni bs i)%vs.length)).len=m)(hb:0<=jC vs 1 (nv bs (ni bs (ni bs i))))(O:nv bs i%16=14):
  Calls prog 48 #[eZ a1 Z c1 U vs.length c2 a3 ab c3,hy P] w (GwO w J P a n cap ((ni bs (ni bs (ni bs (ni bs i))))) bs (.slice a1 Z c1) (.slice U vs.length c2) (.slice a3 ab c3) ins vs outs ⟨10,((1+nv bs (ni bs (ni bs (ni bs i)))%4:Nat):Int),jC vs 1 (nv bs (ni bs (ni bs i))),0,0,0⟩):=by
 exact qew
end
section
variable{bs ins:List Int}{vs:List Vl}
def opT(k:Nat):Int:=[0,2,3,4,5,7,4,2,3].getD k 0
def gwM(ins:List Int)(vs:List Vl)(bs:List Int)(i:Nat):Vl×Nat:=
 if nv bs i%16=0\/vs.length=0 then
  if 0<ins.length/\nv bs (ni bs i)%2=1 then (⟨0,ins.getD (nv bs (ni bs (ni bs i))%ins.length) 0,((nv bs (ni bs (ni bs i))%ins.length:Nat):Int),0,0,0⟩,ni bs (ni bs (ni bs i)))
  else (⟨1,((1+nv bs (dfI bs (if 0<ins.length then ni bs (ni bs i)else ni bs i))%4:Nat):Int),0,0,0,fb (dfV bs (if 0<ins.length then ni bs (ni bs i)else ni bs i))⟩,ni bs (dfI bs (if 0<ins.length then ni bs (ni bs i)else ni bs i)))
 else if nv bs i%16<9 then (⟨opT (nv bs i%16),(vd vs (nv bs (ni bs i)%vs.length)).len,((nv bs (ni bs i)%vs.length:Nat):Int),jC vs (vd vs (nv bs (ni bs i)%vs.length)).len (nv bs (ni bs (ni bs i))),0,0⟩,ni bs (ni bs (ni bs i)))
 else if nv bs i%16=9 then (⟨6,(vd vs (nv bs (ni bs i)%vs.length)).len,((nv bs (ni bs i)%vs.length:Nat):Int),0,0,0⟩,ni bs (ni bs i))
 else if nv bs i%16=10 then (⟨8,(vd vs (nv bs (ni bs i)%vs.length)).len,((nv bs (ni bs i)%vs.length:Nat):Int),jC vs (vd vs (nv bs (ni bs i)%vs.length)).len (nv bs (ni bs (ni bs i))),jC vs (vd vs (nv bs (ni bs i)%vs.length)).len (nv bs (ni bs (ni bs (ni bs i)))),0⟩,ni bs (ni bs (ni bs (ni bs i))))
 else if nv bs i%16=11 then (⟨9,1,((nv bs (ni bs i)%vs.length:Nat):Int),0,0,0⟩,ni bs (ni bs i))
 else if nv bs i%16=12 then (⟨11,1,((nv bs (ni bs i)%vs.length:Nat):Int),0,((nv bs (ni bs (ni bs i))%(vd vs (nv bs (ni bs i)%vs.length)).len.toNat:Nat):Int),0⟩,ni bs (ni bs (ni bs i)))
 else if nv bs i%16=13 then (⟨13,(vd vs (nv bs (ni bs i)%vs.length)).len,((nv bs (ni bs i)%vs.length:Nat):Int),0,0,0⟩,ni bs (ni bs i))
 else if jC vs 1 (nv bs (ni bs (ni bs i)))<0 then (⟨9,1,((nv bs (ni bs i)%vs.length:Nat):Int),0,0,0⟩,ni bs (ni bs (ni bs (ni bs i))))
 else if nv bs i%16=14 then (⟨10,((1+nv bs (ni bs (ni bs (ni bs i)))%4:Nat):Int),jC vs 1 (nv bs (ni bs (ni bs i))),0,0,0⟩,ni bs (ni bs (ni bs (ni bs i))))
 else (⟨12,((1+nv bs (ni bs (ni bs (ni bs i)))%4:Nat):Int),jC vs 1 (nv bs (ni bs (ni bs i))),0,((nv bs (ni bs (ni bs (ni bs (ni bs i))))%(1+nv bs (ni bs (ni bs (ni bs i)))%4):Nat):Int),0⟩,ni bs (ni bs (ni bs (ni bs (ni bs i)))))
theorem Nc{w J P a n cap i a1 U a3 Z c1 c2 ab c3 outs}(f:DG w J (.slice a1 Z c1) (.slice U vs.length c2) (.slice a3 ab c3) ins vs outs)(K:RdF w P a n cap i bs)(hP:P<J)(ad:vs.length<=100000)(bA:∀k,k<vs.length->1<=(vd vs k).len/\(vd vs k).len<=1000):
  Calls prog 48 #[eZ a1 Z c1 U vs.length c2 a3 ab c3,hy P] w (GwO w J P a n cap (gwM ins vs bs i).2 bs (.slice a1 Z c1) (.slice U vs.length c2) (.slice a3 ab c3) ins vs outs (gwM ins vs bs i).1):=by
 have ae:Z=ins.length:=jy f.r1;unfold gwM;by_cases al:nv bs i%16=0\/vs.length=0
 ·rw[hD al];by_cases F:0<ins.length/\nv bs (ni bs i)%2=1
  ·rw[hD F];have:=LW f K hP ad xaa F.2 al;rw[ae]at this⊢;exact this
  rw[hC F];by_cases N:0<ins.length
  ·rw[hD N];exact uz f K hP ad (.inr ⟨by omega,λc=>F ⟨N,c⟩,rfl⟩) al
  rw[hC N];exact uz f K hP ad (.inl ⟨by omega,rfl⟩) al
 rw[hC al];have aO:0<vs.length:=xaa;have an:nv bs i%16<16:=Nat.mod_lt _ xaa;have am:=bA _ (Nat.mod_lt (nv bs (ni bs i)) aO);by_cases bd:nv bs i%16<9
 ·rw[hD bd];refine I0 f K hP ad aO rfl ?_;rcases (by omega:nv bs i%16=1\/nv bs i%16=2\/nv bs i%16=3\/nv bs i%16=4\/nv bs i%16=5\/nv bs i%16=6\/nv bs i%16=7\/nv bs i%16=8) with e|e|e|e|e|e|e|e
  all_goals (rw[e];decide)
 rw[hC bd];by_cases c:nv bs i%16=9
 ·rw[hD c];exact uy f K hP ad aO rfl (.inl ⟨c,rfl,rfl⟩)
 rw[hC c];by_cases c:nv bs i%16=10
 ·rw[hD c];exact IL f K hP ad aO rfl c
 rw[hC c];by_cases c:nv bs i%16=11
 ·rw[hD c];exact uy f K hP ad aO rfl (.inr (.inl ⟨c,rfl,rfl⟩))
 rw[hC c];by_cases c:nv bs i%16=12
 ·rw[hD c];exact E8 f K hP ad aO xaa xaa xaa c
 rw[hC c];by_cases c:nv bs i%16=13
 ·rw[hD c];exact uy f K hP ad aO rfl (.inr (.inr ⟨c,rfl,rfl⟩))
 rw[hC c];by_cases b:jC vs 1 (nv bs (ni bs (ni bs i)))<0
 ·rw[hD b];exact Fd f K hP ad aO rfl b xaa
 rw[hC b];by_cases c:nv bs i%16=14
 ·rw[hD c];exact Fe f K hP ad aO rfl xaa c
 rw[hC c];exact IK f K hP ad aO rfl xaa xaa
theorem CO(vs j):(vd (vs.map sv) j).len=(vd vs j).len:=by
 exact xgt
theorem Am(vs q fr):∀m k,nC (vs.map sv) q fr m k=nC vs q fr m k
 |0,_=>rfl
 |m+1,k=>by
  rw[nC,nC,Am vs q fr m (k+1),List.length_map]
  grind[CO]
theorem I1(vs q fr):jC (vs.map sv) q fr=jC vs q fr:=by
 grind[jC,Am]
theorem I2(ins vs bs i):gwM ins (vs.map sv) bs i=gwM ins vs bs i:=by
 grind[gwM,CO,I1]
theorem yi{i}(hi:∀k,k<ins.length->1<=ins.getD k 0/\ins.getD k 0<=1000)(bA:∀k,k<vs.length->1<=(vd vs k).len/\(vd vs k).len<=1000):1<=(gwM ins vs bs i).1.len/\(gwM ins vs bs i).1.len<=1000:=by
 unfold gwM;by_cases al:nv bs i%16=0\/vs.length=0
 ·rw[hD al];split
  ·rename_i F;exact hi _ (Nat.mod_lt _ F.1)
  grind
 rw[hC al];have am:=bA _ (Nat.mod_lt (nv bs (ni bs i)) (by omega:0<vs.length));repeat' split
 all_goals (simp only;omega)
end
section
attribute[local go_sem] eF eE eD
variable{bz:Array Oper}{C I:World}{rest:List Oper}{p P J n cap i m g Z c c1 c2 ab c3 Y:Nat}{bE R aS u1 u2 u3:Value}{a a1 U a3:Option Addr}{Q:Exit->Act->World->Prop}{bs ins outs l G:List Int}{vs bi:List Vl}
theorem fZ(w){o a}(aG:o.guard=none)(s x)
  (ho:o.op=.call {callee:=.builtin .append,args:=#[s,x],argTypes:=#[23,23]})
  (J) (v) (aY) (au:a.eval s=v) (a6:w.ownsRow J 3 1 v aY.length (aY.map (Value.int .i64)))
  (ak) (y) (an:a.eval x=.slice (some ak) 1 1) (z:w.cell? ak=some (hA y))
  (f:aY.length+1<=1000000) (ae:J<=w.heap.size)
  (h:∀g cap n B,n=(aY++[y]).length->B.ownsRow J 3 1 (hz g n cap) n ((aY++[y]).map (Value.int .i64))->Chg (λb=>v.ownBlock=some b) w B->(v.ownBlock=some g\/g=w.heap.size)->wpList prog bz Q rest (a.put o.dst (hz g n cap)) B):wpList prog bz Q (o::rest) a w:=by
 obtain⟨bW,hi,b4,b3,b0⟩:=info_parts pX;refine wpList_append_lies w aG s x _ ho J 3 _ _ 1 8 underlying23 hi b4 b3 b0 rfl xab v _ _ au a6 _ 1 1 [hA y] an rfl ?_ ?_ xab (by unfold maxLen;omega) xaa ae _ rfl ?_
 ·grind[Addr.add]
 ·intro u aB;simp at aB;subst aB;rfl
 intro g cap B F N h3 _;have e:aY.length+1=(aY++[y]).length:=by grind
 rw[e]at F⊢;refine h g _ _ _ rfl ?_ (gh N) h3;grind
structure Dx(w0 W:World)(P:Nat)(a:Option Addr)(n cap i:Nat)(bs:List Int)(u1 u2 u3:Value)(ins:List Int)(vs:List Vl)(outs:List Int):Prop where
 rd:RdF W P a n cap i bs
 dg:DG W (w0.heap.size+2) u1 u2 u3 ins vs outs
 bx:RB W (w0.heap.size+1) u1 u2 u3
 rs:RB W w0.heap.size iz iz iz
 p0:P<w0.heap.size
 k0:Kept P (P+1) w0 W
theorem Dx.step{W}(f:Dx C W P a n cap i bs u1 u2 u3 ins vs outs)(K:RdF I P a n cap Y bs)(k:Kept P (P+1) W I):Dx C I P a n cap Y bs u1 u2 u3 ins vs outs:=
 ⟨K,f.dg.kept k (hJ f.p0),f.bx.kept k (hJ f.p0),f.rs.kept k (hJ f.p0),f.p0,f.k0.trans k⟩
theorem Dx.keep{W}(f:Dx C W P a n cap i bs u1 u2 u3 ins vs outs)(k:Kept 0 0 W I):Dx C I P a n cap i bs u1 u2 u3 ins vs outs:=f.step (f.rd.keep0 k) (e8 k)
theorem Dx.next{W}(f:Dx C W P a n cap i bs u1 u2 u3 ins vs outs):
  Calls prog 15 #[hy P] W λe I=>e=.returned (hA (nv bs i:Int))/\Dx C I P a n cap (ni bs i) bs u1 u2 u3 ins vs outs:=
 (iX W P a n cap i bs f.rd).mono λ_ _ q=>⟨q.1,f.step q.2.1 q.2.2.1⟩
theorem Dx.start(K:RdF C P a n cap i bs):Dx C ((C.alloc fJ).alloc fJ) P a n cap i bs iz iz iz [] [] []:=by
 have aw:=ez 0 0 C fJ;have ak:=ez 0 0 (C.alloc fJ) fJ;have hb:=iN (C.alloc fJ);rw[show(C.alloc _).heap.size=C.heap.size+1 by simp]at hb;refine⟨K.keep0 (aw.trans ak),⟨yaw _ _ _ _,yaw _ _ _ _,yaw _ _ _ _,?_,?_,?_,?_,by simp⟩,hb,(iN _).keep ak,K.lt,e8 (aw.trans ak)⟩
 ·intro b h;cases h
 ·intro b h;cases h
 ·intro b h;cases h
 grind
theorem Dx.set{W bS a5 a7 z S}(f:Dx C W P a n cap i bs u1 u2 u3 ins vs outs)(c:Chg S W I)(aW:∀b,S b->b=P\/C.heap.size+2<=b)(K:RdF I P a n cap Y bs)(aK:DG I (C.heap.size+2) a5 a7 z l bi G)(k:Kept (C.heap.size+1) (C.heap.size+1+1) I bS)(hb:RB bS (C.heap.size+1) a5 a7 z):Dx C bS P a n cap Y bs a5 a7 z l bi G:=by
 have aM:=f.p0;have e:∀o,_:=λo=>c.cell (p:=⟨C.heap.size,o,none⟩) f.rs.sz (λq=>by grind);have j:∀o,_:=λo=>c.frozen (p:=⟨C.heap.size,o,none⟩) f.rs.sz (λq=>by grind);have aD:RB I _ _ _ _:=⟨yak f.rs.sz c.size,hL e f.rs.q0,hL e f.rs.q1,hL e f.rs.q2,hL j f.rs.f0,hL j f.rs.f1,hL j f.rs.f2⟩
 refine⟨K.keep k (.inl xaa),aK.kept k xaa,hb,aD.kept k xaa,aM,⟨k.os.trans (c.os.trans f.k0.os),k.tape.trans (c.tape.trans f.k0.tape),k.output.trans (c.output.trans f.k0.output),yao f.k0.size (yao c.size k.size),λb hb ad=>?_⟩⟩;have F:=f.k0.size;have N:=c.size;rw[k.block b xaa xaa,c.block b xaa (λq=>by grind)];exact f.k0.block b hb ad
theorem qJ{W}(t:RB W p bE R aS)(x y z):RB (fw W p x y z) p x y z:=by
 obtain⟨ba,aP,y2⟩:=fp W p _ _ _ t.q0 t.q1 t.q2 x y z;have k:=ft W p x y z;refine⟨yak t.sz k.size,ba,aP,y2,?_,?_,?_⟩
 ·unfold fw;simp[t.f0]
 ·unfold fw;simp[t.f1]
 unfold fw;simp[t.f2]
theorem yj{W}(t:RB W p bE R aS)(x):RB (W.setCell ⟨p,0,none⟩ x) p x R aS/\RB (W.setCell ⟨p,2,none⟩ x) p bE R x:=by
 refine⟨⟨by simpa using t.sz,fy _ _ _ _ _ t.q0,by rw[eQ _ _ _ _ _ _ (.inr xaa)];exact t.q1,by rw[eQ _ _ _ _ _ _ (.inr xaa)];exact t.q2,by simp[t.f0],by simp[t.f1],by simp[t.f2]⟩,⟨by simpa using t.sz,by rw[eQ _ _ _ _ _ _ (.inr xaa)];exact t.q0,by rw[eQ _ _ _ _ _ _ (.inr xaa)];exact t.q1,fy _ _ _ _ _ t.q2,by simp[t.f0],by simp[t.f1],by simp[t.f2]⟩⟩
theorem DG.vals{W}(f:DG W J u1 u2 u3 ins vs outs)(bd:Chg (λb=>u2.ownBlock=some b) W I)(ho:I.ownsRow J 62 6 (hz g m c) m (fF bi))(am:m=bi.length)(aJ:u2.ownBlock=some g\/W.heap.size<=g)(O:∀v∈bi,v.k<18446744073709551616):DG I J u1 (hz g m c) u3 ins bi outs:=by
 subst am;refine⟨fi f.r1 bd λb hb ah=>f.a12 b hb ah,ho,fi f.r3 bd λb hb ah=>f.a23 b ah hb,?_,f.a13,?_,O,yao f.sz bd.size⟩
 ·intro b hb ah;have e:b=g:=by simpa[Value.ownBlock] using ah.symm
  subst e;rcases aJ with c|c
  ·exact f.a12 _ hb c
  have:=(eH f.r1 hb).2;omega
 intro b hb ah;have e:b=g:=by simpa[Value.ownBlock] using hb.symm
 subst e;rcases aJ with c|c
 ·exact f.a23 _ c ah
 have:=(eH f.r3 ah).2;omega
theorem DG.ins_{W}(f:DG W J u1 u2 u3 ins vs outs)(bd:Chg (λb=>u1.ownBlock=some b) W I)(ho:I.ownsRow J 3 1 (hz g m c) m (l.map (Value.int .i64)))(am:m=l.length)(aJ:u1.ownBlock=some g\/W.heap.size<=g):DG I J (hz g m c) u2 u3 l vs outs:=by
 subst am;refine⟨ho,fi f.r2 bd λb hb ah=>f.a12 b ah hb,fi f.r3 bd λb hb ah=>f.a13 b ah hb,?_,?_,f.a23,f.k,yao f.sz bd.size⟩
 ·intro b hb ah;have e:b=g:=by simpa[Value.ownBlock] using hb.symm
  subst e;rcases aJ with c|c
  ·exact f.a12 _ c ah
  have:=(eH f.r2 ah).2;omega
 intro b hb ah;have e:b=g:=by simpa[Value.ownBlock] using hb.symm
 subst e;rcases aJ with c|c
 ·exact f.a13 _ c ah
 have:=(eH f.r3 ah).2;omega
theorem DG.outs_{W}(f:DG W J u1 u2 u3 ins vs outs)(bd:Chg (λb=>u3.ownBlock=some b) W I)(ho:I.ownsRow J 3 1 (hz g m c) m (G.map (Value.int .i64)))(am:m=G.length)(aJ:u3.ownBlock=some g\/W.heap.size<=g):DG I J u1 u2 (hz g m c) ins vs G:=by
 subst am;refine⟨fi f.r1 bd λb hb ah=>f.a13 b hb ah,fi f.r2 bd λb hb ah=>f.a23 b hb ah,ho,f.a12,?_,?_,f.k,yao f.sz bd.size⟩
 ·intro b hb ah;have e:b=g:=by simpa[Value.ownBlock] using ah.symm
  subst e;rcases aJ with c|c
  ·exact f.a13 _ hb c
  have:=(eH f.r1 hb).2;omega
 intro b hb ah;have e:b=g:=by simpa[Value.ownBlock] using ah.symm
 subst e;rcases aJ with c|c
 ·exact f.a23 _ hb c
 have:=(eH f.r2 hb).2;omega
theorem V.qba(h:Zp:=by
 have hb:=jl f1.bx bd (λc=>hJ (aT _ c));exact⟨_,_,rfl,hb,f1.set bd (λb hb=>.inr (aT b hb)) (qZ f1.rd bd λb hb=>hJ (aT b hb)) (f1.dg.vals bd a6 xac aJ O) (ft _ _ _ _ _) (qJ hb _ _ _)⟩):Zp:=h
open V in
theorem Dx.put{W az}(f:Dx C W P a n cap i bs (.slice a1 Z c1) (.slice U vs.length c2) (.slice a3 ab c3) ins vs outs)(k:Kept 0 0 W az)(v)(aO:v.k<18446744073709551616)(ad:vs.length<=100000):
  Calls prog 44 #[eZ a1 Z c1 U vs.length c2 a3 ab c3,v.agg] az λe ag=>∃aq cap',e=.returned (eZ a1 Z c1 (some ⟨aq,0,none⟩) (vs.length+1) cap' a3 ab c3)/\RB ag (C.heap.size+1) (.slice a1 Z c1) (.slice U vs.length c2) (.slice a3 ab c3)/\Dx C (fw ag (C.heap.size+1) (.slice a1 Z c1) (hz aq (vs.length+1) cap') (.slice a3 ab c3)) P a n cap i bs (.slice a1 Z c1) (hz aq (vs.length+1) cap') (.slice a3 ab c3) ins (vs++[v]) outs:=by
 have f1:=f.keep k;have aM:=f.p0;refine(rP _ _ _ _ _ _ _ _ _ _ _ v f1.dg.r2 f1.dg.sz xaa).mono ?_;rintro e ag ⟨aq,cap',rfl,a6,au⟩;have aT:∀b,(Value.slice U _ _).ownBlock=some b->_:=λb hb=>(eH f1.dg.r2 hb).1;exact qaz
theorem Dx.grow{W}(f:Dx C W P a n cap i bs (.slice a1 Z c1) (.slice U vs.length c2) (.slice a3 ab c3) ins vs outs)(ad:vs.length<=100000)(bA:∀k,k<vs.length->1<=(vd vs k).len/\(vd vs k).len<=1000):
  Calls prog 48 #[eZ a1 Z c1 U vs.length c2 a3 ab c3,hy P] W λe ag=>∃v aq cap',e=.returned (eZ a1 Z c1 (some ⟨aq,0,none⟩) (vs.length+1) cap' a3 ab c3)/\sv v=(gwM ins vs bs i).1/\RB ag (C.heap.size+1) (.slice a1 Z c1) (.slice U vs.length c2) (.slice a3 ab c3)/\Dx C (fw ag (C.heap.size+1) (.slice a1 Z c1) (hz aq (vs.length+1) cap') (.slice a3 ab c3)) P a n cap (gwM ins vs bs i).2 bs (.slice a1 Z c1) (hz aq (vs.length+1) cap') (.slice a3 ab c3) ins (vs++[v]) outs:=by
 have aM:=f.p0;refine(Nc f.dg f.rd xaa ad bA).mono ?_;rintro e ag ⟨v,aq,cap',rfl,ao,aK,aD,ah,aJ⟩;have aT:∀b,(Value.slice U vs.length c2).ownBlock=some b->C.heap.size+2<=b:=λb hb=>(eH f.dg.r2 hb).1;have hb:=jl f.bx ah (by grind);exact⟨v,aq,cap',rfl,ao,hb,f.set ah (by simp_all) aD aK (ft _ _ _ _ _) (qJ hb _ _ _)⟩
theorem Dx.ins_{W x}(f:Dx C W P a n cap i bs u1 u2 u3 ins vs outs)(bd:Chg (λb=>u1.ownBlock=some b) W I)(ho:I.ownsRow (C.heap.size+2) 3 1 (hz g m c) m ((ins++[x]).map (Value.int .i64)))(am:m=(ins++[x]).length)(aJ:u1.ownBlock=some g\/g=W.heap.size):Dx C (I.setCell ⟨C.heap.size+1,0,none⟩ (hz g m c)) P a n cap i bs (hz g m c) u2 u3 (ins++[x]) vs outs:=by
 have aM:=f.p0;have aT:∀b,u1.ownBlock=some b->_:=λb hb=>(eH f.dg.r1 hb).1;have hb:=jl f.bx bd (λc=>by grind);exact f.set bd (λb hb=>.inr (aT b hb)) (qZ f.rd bd λb hb=>by grind) (f.dg.ins_ bd ho am (aJ.imp id λe=>Nat.le_of_eq e.symm)) (eR _ _ _ yac) (yj hb _).1
theorem Dx.outs_{W x}(f:Dx C W P a n cap i bs u1 u2 u3 ins vs outs)(bd:Chg (λb=>u3.ownBlock=some b) W I)(ho:I.ownsRow (C.heap.size+2) 3 1 (hz g m c) m ((outs++[x]).map (Value.int .i64)))(am:m=(outs++[x]).length)(aJ:u3.ownBlock=some g\/g=W.heap.size):Dx C (I.setCell ⟨C.heap.size+1,2,none⟩ (hz g m c)) P a n cap i bs u1 u2 (hz g m c) ins vs (outs++[x]):=by
 have aM:=f.p0;have aT:∀b,u3.ownBlock=some b->_:=λb hb=>(eH f.dg.r3 hb).1;have hb:=jl f.bx bd (λc=>by grind);exact f.set bd (λb hb=>.inr (aT b hb)) (qZ f.rd bd λb hb=>by grind) (f.dg.outs_ bd ho am (aJ.imp id λe=>Nat.le_of_eq e.symm)) (eR _ _ _ yac) (yj hb _).2
def flE(env:List (List UInt8×Int)):List Value:=env.flatMap λx=>[.string ⟨x.1.toArray⟩,.int .i64 x.2]
def nmL:List (List UInt8):=[[97],[98,50],[99,95],[100],[101],[103],[104]]
theorem L9(a b):flE (a++b)=flE a++flE b:=by simp[flE]
theorem BK(a):∀k,k<a.length->(flE a)[k*2]? =some (eN (a.getD k ([],0)).1)/\(flE a)[k*2+1]? =some (hA (a.getD k ([],0)).2):=by
 induction a<;>simp_all[flE]<;>grind
theorem P7:(prog.info? 130).map (λi=>(i.zero,i.size,i.bytes))=some (some (.agg #[.string ⟨#[]⟩,hA 0]),2,24):=by kernel_rfl
theorem l9(w){o a}(aG:o.guard=none)(s x)
  (ho:o.op=.call {callee:=.builtin .append,args:=#[s,x],argTypes:=#[128,128]})
  (J) (u) (env) (au:a.eval s=u) (a6:w.ownsRow J 130 2 u env.length (flE env))
  (b) (v) (an:a.eval x=hz b 1 1) (al:w.cell? ⟨b,0,none⟩=some (.string ⟨v.1.toArray⟩)) (F:w.cell? ⟨b,1,none⟩=some (hA v.2))
  (f:env.length+1<=1000) (ae:J<=w.heap.size)
  (h:∀g cap n B,n=(env++[v]).length->B.ownsRow J 130 2 (hz g n cap) n (flE (env++[v]))->Chg (λb=>u.ownBlock=some b) w B->(u.ownBlock=some g\/g=w.heap.size)->wpList prog bz Q rest (a.put o.dst (hz g n cap)) B):wpList prog bz Q (o::rest) a w:=by
 obtain⟨bW,hi,b4,b3,b0⟩:=info_parts P7;refine wpList_append_lies w aG s x 128 ho J 130 bW _ 2 24 underlying128 hi b4 b3 b0 rfl xab u env.length _ au a6 ⟨b,0,none⟩ 1 1 [.string ⟨v.1.toArray⟩,hA v.2] an rfl ?_ ?_ xab (by unfold maxLen;omega) xaa ae _ rfl ?_
 ·intro j u aB;match j,aB with
  |0,aB=>cases aB;exact al
  |1,aB=>cases aB;exact F
 ·intro u aB;simp at aB;rcases aB with rfl|rfl<;>rfl
 intro g cap B F N h3 _;have e:env.length+1=(env++[v]).length:=by grind
 rw[e]at F⊢;refine h g cap _ B rfl ?_ (gh N) h3;rw[L9];exact F
structure Sw(w:World)(P n cap T:Nat)(a:Option Addr)(bs:List Int)(i:Nat)(env:List (List UInt8×Int))(u:Value)(W:World):Prop where
 rd:RdF W P a n cap i bs
 own:W.ownsRow w.heap.size 130 2 u env.length (flE env)
 tb:∀m,m<7->W.cell? ⟨T,m,none⟩=some (.string ⟨(nmL.getD m []).toArray⟩)
 tl:T<W.heap.size
 wl:w.heap.size<=T
 p0:P<w.heap.size
 nt:u.ownBlock≠some T
 kp:Kept P (P+1) w W
variable{w W I:World}{P n cap T i j:Nat}{a:Option Addr}{bs:List Int}{env:List (List UInt8×Int)}{u:Value}
theorem Sw.step(h:Sw w P n cap T a bs i env u W)(r:RdF I P a n cap j bs)(k:Kept P (P+1) W I):Sw w P n cap T a bs j env u I:=
 have aM:=h.p0
 have X:=h.wl
 ⟨r,f9 h.own k λ_ e=>.inr (hJ ((eH h.own e).1)),λm am=>(k.cell (p:=⟨T,m,none⟩) h.tl (by grind)).trans (h.tb m am),yak h.tl k.size,X,aM,h.nt,h.kp.trans k⟩
theorem Sw.keep0(h:Sw w P n cap T a bs i env u W)(k:Kept 0 0 W I):Sw w P n cap T a bs i env u I:=h.step (h.rd.keep0 k) (e8 k)
theorem Sw.next(h:E (Sw w P n cap T a bs i env u W)):Calls prog 15 #[hy P] W λe I=>e=.returned (hA (nv bs i:Int))/\Sw w P n cap T a bs (ni bs i) env u I:=
 (iX W P a n cap i bs h.o.rd).mono λ_ _ ⟨e,r,k,_⟩=>⟨e,h.o.step r k⟩
theorem Sw.form(h:Sw w P n cap T a bs i env u W):∃aE cE,u=.slice aE env.length cE:=by
 rcases h.own.2 with⟨e,b9⟩|⟨g,c,_,e,_⟩<;>grind
theorem Sw.call{aE nE cE f xs s}(h:E (Sw w P n cap T a bs i env (.slice aE nE cE) W))(af:nE<=100)(aK:Dr env bs i f xs m s j):
  Calls prog f (xs ⟨W,P,n,cap,nE,cE,a,aE⟩) W λe I=>e=.returned (.string s)/\Sw w P n cap T a bs j env (.slice aE nE cE) I/\Kept P (P+1) W I:=by
 have ad:=jy h.o.own;subst ad;refine(aK.2 ⟨W,P,n,cap,env.length,cE,a,aE⟩ W ⟨h.o.rd,⟨rfl,af,λk O=>?_⟩,Kept.refl _ _ _⟩).mono λ_ _ ⟨e,au⟩=>⟨e,h.o.step au.rd au.kp,au.kp⟩
 replace O:k<env.length:=O;obtain⟨g,c,e,F,N⟩:=h.o.own.form xaa;injection e with ae;have q:=λm v z=>h.o.own.cells (g:=g) (hO ae) m v z;simp only[jG,Nat.zero_add]at q;have aM:=h.o.p0;exact⟨g,ae,by grind,N,q _ _ (BK env k O).1,q _ _ (BK env k O).2⟩
theorem Sw.last{es v}(h:Sw w P n cap T a bs i env u W)(al:env=es++[v]):∃g cE,u=hz g env.length cE/\W.cell? ⟨g,es.length*2,none⟩=some (.string ⟨v.1.toArray⟩)/\W.cell? ⟨g,es.length*2+1,none⟩=some (hA v.2):=by
 have af:env.length=es.length+1:=by grind
 obtain⟨g,c,e,_,_⟩:=h.own.form xaa;have q:=λm v z=>h.own.cells (g:=g) (hO e) m v z;simp only[jG,Nat.zero_add]at q;have z:=BK env es.length xaa;simp_all
theorem Sw.app(h:Sw w P n cap T a bs i env u W)(v)(am:m=(env++[v]).length)(o:I.ownsRow w.heap.size 130 2 (hz g m c) m (flE (env++[v])))(k:Chg (λb=>u.ownBlock=some b) W I)(aJ:u.ownBlock=some g\/g=W.heap.size):Sw w P n cap T a bs i (env++[v]) (hz g m c) I:=by
 have aM:=h.p0;subst am;have aj:Kept w.heap.size W.heap.size W I:=⟨k.os,k.tape,k.output,k.size,λb hb ad=>k.block b hb λe=>ad (eH h.own e)⟩
 refine⟨h.rd.keep aj (.inl aM),o,λm am=>(k.cell (p:=⟨T,m,none⟩) h.tl h.nt).trans (h.tb m am),yak h.tl k.size,h.wl,aM,?_,h.kp.new aj yad⟩;rcases aJ with e|e
 ·show some g≠some T;rw[<-e];exact h.nt
 have:=h.tl;grind[Value.ownBlock]
variable{w W I:World}{P n cap i j:Nat}{a:Option Addr}{bs aY:List Int}{u:Value}
def PsO(w:World)(P n cap:Nat)(a:Option Addr)(bs:List Int)(j:Nat)(e:Ending)(w':World):Prop:=∃v,e=.returned v/\RdF w' P a n cap j bs/\Kept P (P+1) w w'
