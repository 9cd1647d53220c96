import Derived.Test.YtbhmhdllnfkjhaaGreatP42
import Derived.Test.YtbhmhdllnfkjhaaGreatP41
import Derived.Test.YtbhmhdllnfkjhaaGreatP38
namespace Go.Proofs.Z
variable{Zp:Prop}
open Tryz Go.RowKit Flt
set_option maxRecDepth 1000000
set_option maxHeartbeats 0
section
variable{bs ins:List Int}{vs:List Vl}
def opT(k:Nat):Int:=[0,2,3,4,5,7,4,2,3].getD k 0
def gwM(ins:List Int)(vs:List Vl)(bs:List Int)(i:Nat):Vl×Nat:=
 if nv bs i%16=0\/vs.length=0 then
  if 0<ins.length/\nv bs (ni bs i)%2=1 then (⟨0,ins.getD (nv bs (ni bs (ni bs i))%ins.length) 0,((nv bs (ni bs (ni bs i))%ins.length:Nat):Int),0,0,0⟩,ni bs (ni bs (ni bs i)))
  else (⟨1,((1+nv bs (dfI bs (if 0<ins.length then ni bs (ni bs i)else ni bs i))%4:Nat):Int),0,0,0,fb (dfV bs (if 0<ins.length then ni bs (ni bs i)else ni bs i))⟩,ni bs (dfI bs (if 0<ins.length then ni bs (ni bs i)else ni bs i)))
 else if nv bs i%16<9 then (⟨opT (nv bs i%16),(vd vs (nv bs (ni bs i)%vs.length)).len,((nv bs (ni bs i)%vs.length:Nat):Int),jS vs (vd vs (nv bs (ni bs i)%vs.length)).len (nv bs (ni bs (ni bs i))),0,0⟩,ni bs (ni bs (ni bs i)))
 else if nv bs i%16=9 then (⟨6,(vd vs (nv bs (ni bs i)%vs.length)).len,((nv bs (ni bs i)%vs.length:Nat):Int),0,0,0⟩,ni bs (ni bs i))
 else if nv bs i%16=10 then (⟨8,(vd vs (nv bs (ni bs i)%vs.length)).len,((nv bs (ni bs i)%vs.length:Nat):Int),jS vs (vd vs (nv bs (ni bs i)%vs.length)).len (nv bs (ni bs (ni bs i))),jS vs (vd vs (nv bs (ni bs i)%vs.length)).len (nv bs (ni bs (ni bs (ni bs i)))),0⟩,ni bs (ni bs (ni bs (ni bs i))))
 else if nv bs i%16=11 then (⟨9,1,((nv bs (ni bs i)%vs.length:Nat):Int),0,0,0⟩,ni bs (ni bs i))
 else if nv bs i%16=12 then (⟨11,1,((nv bs (ni bs i)%vs.length:Nat):Int),0,((nv bs (ni bs (ni bs i))%(vd vs (nv bs (ni bs i)%vs.length)).len.toNat:Nat):Int),0⟩,ni bs (ni bs (ni bs i)))
 else if nv bs i%16=13 then (⟨13,(vd vs (nv bs (ni bs i)%vs.length)).len,((nv bs (ni bs i)%vs.length:Nat):Int),0,0,0⟩,ni bs (ni bs i))
 else if jS vs 1 (nv bs (ni bs (ni bs i)))<0 then (⟨9,1,((nv bs (ni bs i)%vs.length:Nat):Int),0,0,0⟩,ni bs (ni bs (ni bs (ni bs i))))
 else if nv bs i%16=14 then (⟨10,((1+nv bs (ni bs (ni bs (ni bs i)))%4:Nat):Int),jS vs 1 (nv bs (ni bs (ni bs i))),0,0,0⟩,ni bs (ni bs (ni bs (ni bs i))))
 else (⟨12,((1+nv bs (ni bs (ni bs (ni bs i)))%4:Nat):Int),jS vs 1 (nv bs (ni bs (ni bs i))),0,((nv bs (ni bs (ni bs (ni bs (ni bs i))))%(1+nv bs (ni bs (ni bs (ni bs i)))%4):Nat):Int),0⟩,ni bs (ni bs (ni bs (ni bs (ni bs i)))))
theorem Mn{w R P a n cap i a1 Y a3 n1 c1 c2 n3 c3 outs}(f:DG w R (.slice a1 n1 c1) (.slice Y vs.length c2) (.slice a3 n3 c3) ins vs outs)(C:RdF w P a n cap i bs)(hP:P<R)(hn:vs.length<=100000)(bJ:∀k,k<vs.length->1<=(vd vs k).len/\(vd vs k).len<=1000):
  Calls prog 42 #[eV a1 n1 c1 Y vs.length c2 a3 n3 c3,hB P] w (GwO w R P a n cap (gwM ins vs bs i).2 bs (.slice a1 n1 c1) (.slice Y vs.length c2) (.slice a3 n3 c3) ins vs outs (gwM ins vs bs i).1):=by
 have e1:n1=ins.length:=jP f.r1;unfold gwM;by_cases ae:nv bs i%16=0\/vs.length=0
 ·rw[hG ae];by_cases B:0<ins.length/\nv bs (ni bs i)%2=1
  ·rw[hG B];have:=K5 f C hP hn xaa B.2 ae;rw[e1]at this⊢;exact this
  rw[hF B];by_cases J:0<ins.length
  ·rw[hG J];exact uD f C hP hn (.inr ⟨by omega,λc=>B ⟨J,c⟩,rfl⟩) ae
  rw[hF J];exact uD f C hP hn (.inl ⟨by omega,rfl⟩) ae
 rw[hF ae];have aD:0<vs.length:=xaa;have ak:nv bs i%16<16:=Nat.mod_lt _ xaa;have aq:=bJ _ (Nat.mod_lt (nv bs (ni bs i)) aD);by_cases X:nv bs i%16<9
 ·rw[hG X];refine Ir f C hP hn aD rfl ?_;rcases (by omega:nv bs i%16=1\/nv bs i%16=2\/nv bs i%16=3\/nv bs i%16=4\/nv bs i%16=5\/nv bs i%16=6\/nv bs i%16=7\/nv bs i%16=8) with e|e|e|e|e|e|e|e
  all_goals (rw[e];decide)
 rw[hF X];by_cases c:nv bs i%16=9
 ·rw[hG c];exact uC f C hP hn aD rfl (.inl ⟨c,rfl,rfl⟩)
 rw[hF c];by_cases c:nv bs i%16=10
 ·rw[hG c];exact Iq f C hP hn aD rfl c
 rw[hF c];by_cases c:nv bs i%16=11
 ·rw[hG c];exact uC f C hP hn aD rfl (.inr (.inl ⟨c,rfl,rfl⟩))
 rw[hF c];by_cases c:nv bs i%16=12
 ·rw[hG c];exact EI f C hP hn aD xaa xaa xaa c
 rw[hF c];by_cases c:nv bs i%16=13
 ·rw[hG c];exact uC f C hP hn aD rfl (.inr (.inr ⟨c,rfl,rfl⟩))
 rw[hF c];by_cases b:jS vs 1 (nv bs (ni bs (ni bs i)))<0
 ·rw[hG b];exact EJ f C hP hn aD rfl b xaa
 rw[hF b];by_cases c:nv bs i%16=14
 ·rw[hG c];exact EK f C hP hn aD rfl xaa c
 rw[hF c];exact Im f C hP hn aD rfl xaa xaa
theorem CA(vs j):(vd (vs.map sv) j).len=(vd vs j).len:=by
 exact xhh
theorem Ae(vs q fr):∀m k,nV (vs.map sv) q fr m k=nV vs q fr m k
 |0,_=>rfl
 |m+1,k=>by
  rw[nV,nV,Ae vs q fr m (k+1),List.length_map]
  rw[show((vs.map sv).getD ((fr+k)%vs.length) hI).len=(vs.getD ((fr+k)%vs.length) hI).len from CA vs _]
theorem Is(vs q fr):jS (vs.map sv) q fr=jS vs q fr:=by
 unfold jS;rw[Ae,List.length_map]
theorem It(ins vs bs i):gwM ins (vs.map sv) bs i=gwM ins vs bs i:=by
 unfold gwM;simp only[List.length_map,CA,Is]
theorem x9{i}(hi:∀k,k<ins.length->1<=ins.getD k 0/\ins.getD k 0<=1000)(bJ:∀k,k<vs.length->1<=(vd vs k).len/\(vd vs k).len<=1000):1<=(gwM ins vs bs i).1.len/\(gwM ins vs bs i).1.len<=1000:=by
 unfold gwM;by_cases ae:nv bs i%16=0\/vs.length=0
 ·rw[hG ae];split
  ·rename_i B;exact hi _ (Nat.mod_lt _ B.1)
  simp only;omega
 rw[hF ae];have aq:=bJ _ (Nat.mod_lt (nv bs (ni bs i)) (by omega:0<vs.length));repeat' split
 all_goals (simp only;omega)
end
section
attribute[local go_sem] eG eE eD
variable{H W':World}{p P R n cap i m g c K:Nat}{bH O ax u1 u2 u3:Value}{a:Option Addr}{bs ins outs l Z:List Int}{vs a7:List Vl}{S:Nat->Prop}
theorem fk(w){br rest o a Q}(X:o.guard=none)(s x)
  (al:o.op=.call {callee:=.builtin .append,args:=#[s,x],argTypes:=#[23,23]})
  (R) (v) (aT) (ar:a.eval s=v) (aZ:w.ownsRow R 3 1 v aT.length (aT.map (Value.int .i64)))
  (ai) (y) (ak:a.eval x=.slice (some ai) 1 1) (f:w.cell? ai=some (hD y))
  (C:aT.length+1<=1000000) (T:R<=w.heap.size)
  (h:∀g cap n I,n=(aT++[y]).length->I.ownsRow R 3 1 (hC g n cap) n ((aT++[y]).map (Value.int .i64))->Chg (λb=>v.ownBlock=some b) w I->(v.ownBlock=some g\/g=w.heap.size)->wpList prog br Q rest (a.put o.dst (hC g n cap)) I):wpList prog br Q (o::rest) a w:=by
 obtain⟨b3,hi,a6,b8,b5⟩:=info_parts qz;refine wpList_append_lies w X s x _ al R 3 _ _ 1 8 underlying23 hi a6 b8 b5 rfl xab v _ _ ar aZ _ 1 1 [hD y] ak rfl ?_ ?_ xab (by unfold maxLen;omega) xaa T _ rfl ?_
 ·grind[Addr.add]
 ·intro u aH;simp at aH;subst aH;rfl
 intro g cap I B J h3 _;have e:aT.length+1=(aT++[y]).length:=by grind
 rw[e]at B⊢;refine h g _ _ _ rfl ?_ (ii J) h3;grind
structure Dx(w0 W:World)(P:Nat)(a:Option Addr)(n cap i:Nat)(bs:List Int)(u1 u2 u3:Value)(ins:List Int)(vs:List Vl)(outs:List Int):Prop where
 rd:RdF W P a n cap i bs
 dg:DG W (w0.heap.size+2) u1 u2 u3 ins vs outs
 bx:RB W (w0.heap.size+1) u1 u2 u3
 rs:RB W w0.heap.size iS iS iS
 p0:P<w0.heap.size
 k0:Kept P (P+1) w0 W
theorem Dx.step{W}(f:Dx H W P a n cap i bs u1 u2 u3 ins vs outs)(C:RdF W' P a n cap K bs)(k:Kept P (P+1) W W'):Dx H W' P a n cap K bs u1 u2 u3 ins vs outs:=
 ⟨C,f.dg.kept k (hM f.p0),f.bx.kept k (hM f.p0),f.rs.kept k (hM f.p0),f.p0,f.k0.trans k⟩
theorem Dx.keep{W}(f:Dx H W P a n cap i bs u1 u2 u3 ins vs outs)(k:Kept 0 0 W W'):Dx H W' P a n cap i bs u1 u2 u3 ins vs outs:=f.step (f.rd.keep0 k) (fh k)
theorem Dx.next{W}(f:Dx H W P a n cap i bs u1 u2 u3 ins vs outs):
  Calls prog 33 #[hB P] W λe W'=>e=.returned (hD (nv bs i:Int))/\Dx H W' P a n cap (ni bs i) bs u1 u2 u3 ins vs outs:=
 (jh W P a n cap i bs f.rd).mono λ_ _ q=>⟨q.1,f.step q.2.1 q.2.2.1⟩
theorem Dx.start(C:RdF H P a n cap i bs):Dx H ((H.alloc fj).alloc fj) P a n cap i bs iS iS iS [] [] []:=by
 have aj:=ez 0 0 H fj;have ah:=ez 0 0 (H.alloc fj) fj;have hb:=fF (H.alloc fj);rw[show(H.alloc _).heap.size=H.heap.size+1 by simp]at hb;refine⟨C.keep0 (aj.trans ah),⟨yaw _ _ _ _,yaw _ _ _ _,yaw _ _ _ _,?_,?_,?_,?_,by simp⟩,hb,(fF _).keep ah,C.lt,fh (aj.trans ah)⟩
 ·intro b h;cases h
 ·intro b h;cases h
 ·intro b h;cases h
 intro v h;cases h
theorem Dx.set{W W2 a9 ba be}(f:Dx H W P a n cap i bs u1 u2 u3 ins vs outs)(c:Chg S W W')(aZ:∀b,S b->b=P\/H.heap.size+2<=b)(C:RdF W' P a n cap K bs)(G:DG W' (H.heap.size+2) a9 ba be l a7 Z)(k:Kept (H.heap.size+1) (H.heap.size+1+1) W' W2)(hb:RB W2 (H.heap.size+1) a9 ba be):Dx H W2 P a n cap K bs a9 ba be l a7 Z:=by
 have aK:=f.p0;have e:∀o,_:=λo=>c.cell (p:=⟨H.heap.size,o,none⟩) f.rs.sz (λq=>by have:=aZ _ q;simp at this;omega);have j:∀o,_:=λo=>c.frozen (p:=⟨H.heap.size,o,none⟩) f.rs.sz (λq=>by have:=aZ _ q;simp at this;omega);have av:RB W' _ _ _ _:=⟨yak f.rs.sz c.size,hO e f.rs.q0,hO e f.rs.q1,hO e f.rs.q2,hO j f.rs.f0,hO j f.rs.f1,hO j f.rs.f2⟩
 refine⟨C.keep k (.inl xaa),G.kept k xaa,hb,av.kept k xaa,aK,⟨k.os.trans (c.os.trans f.k0.os),k.tape.trans (c.tape.trans f.k0.tape),k.output.trans (c.output.trans f.k0.output),yao f.k0.size (yao c.size k.size),λb hb hn=>?_⟩⟩;have B:=f.k0.size;have J:=c.size;rw[k.block b xaa xaa,c.block b xaa (λq=>hM (aZ b q))];exact f.k0.block b hb hn
theorem jJ{W}(t:RB W p bH O ax)(c:Chg S W W')(aK:¬S p):RB W' p bH O ax:=
 have e:∀o,W'.cell? ⟨p,o,none⟩=W.cell? ⟨p,o,none⟩:=λo=>c.cell (p:=⟨p,o,none⟩) t.sz aK
 have j:∀o,W'.frozen? ⟨p,o,none⟩=W.frozen? ⟨p,o,none⟩:=λo=>c.frozen (p:=⟨p,o,none⟩) t.sz aK
 ⟨yak t.sz c.size,hO e t.q0,hO e t.q1,hO e t.q2,hO j t.f0,hO j t.f1,hO j t.f2⟩
theorem nK{W}(t:RB W p bH O ax)(x y z):RB (fw W p x y z) p x y z:=by
 obtain⟨bb,aM,aQ⟩:=eZ W p _ _ _ t.q0 t.q1 t.q2 x y z;have k:=fg W p x y z;refine⟨yak t.sz k.size,bb,aM,aQ,?_,?_,?_⟩
 ·unfold fw;simp[t.f0]
 ·unfold fw;simp[t.f1]
 unfold fw;simp[t.f2]
theorem yd{W}(t:RB W p bH O ax)(x):RB (W.setCell ⟨p,0,none⟩ x) p x O ax/\RB (W.setCell ⟨p,2,none⟩ x) p bH O x:=by
 refine⟨⟨by simpa using t.sz,fD _ _ _ _ _ t.q0,by rw[eM _ _ _ _ _ _ (.inr xaa)];exact t.q1,by rw[eM _ _ _ _ _ _ (.inr xaa)];exact t.q2,by simp[t.f0],by simp[t.f1],by simp[t.f2]⟩,⟨by simpa using t.sz,by rw[eM _ _ _ _ _ _ (.inr xaa)];exact t.q0,by rw[eM _ _ _ _ _ _ (.inr xaa)];exact t.q1,fD _ _ _ _ _ t.q2,by simp[t.f0],by simp[t.f1],by simp[t.f2]⟩⟩
theorem DG.vals{W}(f:DG W R u1 u2 u3 ins vs outs)(X:Chg (λb=>u2.ownBlock=some b) W W')(al:W'.ownsRow R 60 6 (hC g m c) m (fK a7))(aq:m=a7.length)(aR:u2.ownBlock=some g\/W.heap.size<=g)(N:∀v∈a7,v.k<18446744073709551616):DG W' R u1 (hC g m c) u3 ins a7 outs:=by
 subst aq;refine⟨fy f.r1 X λb hb ad=>f.a12 b hb ad,al,fy f.r3 X λb hb ad=>f.a23 b ad hb,?_,f.a13,?_,N,yao f.sz X.size⟩
 ·intro b hb ad;have e:b=g:=by simpa[Value.ownBlock] using ad.symm
  subst e;rcases aR with c|c
  ·exact f.a12 _ hb c
  have:=(eH f.r1 hb).2;omega
 intro b hb ad;have e:b=g:=by simpa[Value.ownBlock] using hb.symm
 subst e;rcases aR with c|c
 ·exact f.a23 _ c ad
 have:=(eH f.r3 ad).2;omega
theorem DG.ins_{W}(f:DG W R u1 u2 u3 ins vs outs)(X:Chg (λb=>u1.ownBlock=some b) W W')(al:W'.ownsRow R 3 1 (hC g m c) m (l.map (Value.int .i64)))(aq:m=l.length)(aR:u1.ownBlock=some g\/W.heap.size<=g):DG W' R (hC g m c) u2 u3 l vs outs:=by
 subst aq;refine⟨al,fy f.r2 X λb hb ad=>f.a12 b ad hb,fy f.r3 X λb hb ad=>f.a13 b ad hb,?_,?_,f.a23,f.k,yao f.sz X.size⟩
 ·intro b hb ad;have e:b=g:=by simpa[Value.ownBlock] using hb.symm
  subst e;rcases aR with c|c
  ·exact f.a12 _ c ad
  have:=(eH f.r2 ad).2;omega
 intro b hb ad;have e:b=g:=by simpa[Value.ownBlock] using hb.symm
 subst e;rcases aR with c|c
 ·exact f.a13 _ c ad
 have:=(eH f.r3 ad).2;omega
theorem DG.outs_{W}(f:DG W R u1 u2 u3 ins vs outs)(X:Chg (λb=>u3.ownBlock=some b) W W')(al:W'.ownsRow R 3 1 (hC g m c) m (Z.map (Value.int .i64)))(aq:m=Z.length)(aR:u3.ownBlock=some g\/W.heap.size<=g):DG W' R u1 u2 (hC g m c) ins vs Z:=by
 subst aq;refine⟨fy f.r1 X λb hb ad=>f.a13 b hb ad,fy f.r2 X λb hb ad=>f.a23 b hb ad,al,f.a12,?_,?_,f.k,yao f.sz X.size⟩
 ·intro b hb ad;have e:b=g:=by simpa[Value.ownBlock] using ad.symm
  subst e;rcases aR with c|c
  ·exact f.a13 _ hb c
  have:=(eH f.r1 hb).2;omega
 intro b hb ad;have e:b=g:=by simpa[Value.ownBlock] using ad.symm
 subst e;rcases aR with c|c
 ·exact f.a23 _ hb c
 have:=(eH f.r2 hb).2;omega
theorem aM.qbc(h:Zp:=by
 have hb:=jJ f1.bx X (λc=>hM (aS _ c));exact⟨_,_,rfl,hb,f1.set X (λb hb=>.inr (aS b hb)) (rW f1.rd X λb hb=>hM (aS b hb)) (f1.dg.vals X aZ xac aR N) (fg _ _ _ _ _) (nK hb _ _ _)⟩):Zp:=h
open aM in
theorem Dx.put{H W P a n cap i bs a1 Y a3 n1 c1 c2 n3 c3 ins vs outs az}(f:Dx H W P a n cap i bs (.slice a1 n1 c1) (.slice Y vs.length c2) (.slice a3 n3 c3) ins vs outs)(k:Kept 0 0 W az)(v)(aD:v.k<18446744073709551616)(hn:vs.length<=100000):
  Calls prog 38 #[eV a1 n1 c1 Y vs.length c2 a3 n3 c3,v.agg] az λe ag=>∃aB cap',e=.returned (eV a1 n1 c1 (some ⟨aB,0,none⟩) (vs.length+1) cap' a3 n3 c3)/\RB ag (H.heap.size+1) (.slice a1 n1 c1) (.slice Y vs.length c2) (.slice a3 n3 c3)/\Dx H (fw ag (H.heap.size+1) (.slice a1 n1 c1) (hC aB (vs.length+1) cap') (.slice a3 n3 c3)) P a n cap i bs (.slice a1 n1 c1) (hC aB (vs.length+1) cap') (.slice a3 n3 c3) ins (vs++[v]) outs:=by
 have f1:=f.keep k;have aK:=f.p0;refine(se _ _ _ _ _ _ _ _ _ _ _ v f1.dg.r2 f1.dg.sz xaa).mono ?_;rintro e ag ⟨aB,cap',rfl,aZ,ar⟩;have aS:∀b,(Value.slice Y _ _).ownBlock=some b->_:=λb hb=>(eH f1.dg.r2 hb).1;exact qbb
theorem Dx.grow{W a1 Y a3 n1 c1 c2 n3 c3}(f:Dx H W P a n cap i bs (.slice a1 n1 c1) (.slice Y vs.length c2) (.slice a3 n3 c3) ins vs outs)(hn:vs.length<=100000)(bJ:∀k,k<vs.length->1<=(vd vs k).len/\(vd vs k).len<=1000):
  Calls prog 42 #[eV a1 n1 c1 Y vs.length c2 a3 n3 c3,hB P] W λe ag=>∃v aB cap',e=.returned (eV a1 n1 c1 (some ⟨aB,0,none⟩) (vs.length+1) cap' a3 n3 c3)/\sv v=(gwM ins vs bs i).1/\RB ag (H.heap.size+1) (.slice a1 n1 c1) (.slice Y vs.length c2) (.slice a3 n3 c3)/\Dx H (fw ag (H.heap.size+1) (.slice a1 n1 c1) (hC aB (vs.length+1) cap') (.slice a3 n3 c3)) P a n cap (gwM ins vs bs i).2 bs (.slice a1 n1 c1) (hC aB (vs.length+1) cap') (.slice a3 n3 c3) ins (vs++[v]) outs:=by
 have aK:=f.p0;refine(Mn f.dg f.rd xaa hn bJ).mono ?_;rintro e ag ⟨v,aB,cap',rfl,ae,G,av,ad,aR⟩;have aS:∀b,(Value.slice Y vs.length c2).ownBlock=some b->H.heap.size+2<=b:=λb hb=>(eH f.dg.r2 hb).1;have hb:=jJ f.bx ad (by rintro (c|c);omega;have:=aS _ c;omega);exact⟨v,aB,cap',rfl,ae,hb,f.set ad (by rintro b (c|c);exact .inl c;exact .inr (aS b c)) av G (fg _ _ _ _ _) (nK hb _ _ _)⟩
theorem Dx.ins_{W x}(f:Dx H W P a n cap i bs u1 u2 u3 ins vs outs)(X:Chg (λb=>u1.ownBlock=some b) W W')(al:W'.ownsRow (H.heap.size+2) 3 1 (hC g m c) m ((ins++[x]).map (Value.int .i64)))(aq:m=(ins++[x]).length)(aR:u1.ownBlock=some g\/g=W.heap.size):Dx H (W'.setCell ⟨H.heap.size+1,0,none⟩ (hC g m c)) P a n cap i bs (hC g m c) u2 u3 (ins++[x]) vs outs:=by
 have aK:=f.p0;have aS:∀b,u1.ownBlock=some b->_:=λb hb=>(eH f.dg.r1 hb).1;have hb:=jJ f.bx X (λc=>hM (aS _ c));exact f.set X (λb hb=>.inr (aS b hb)) (rW f.rd X λb hb=>hM (aS b hb)) (f.dg.ins_ X al aq (aR.imp id λe=>Nat.le_of_eq e.symm)) (eP _ _ _ yac) (yd hb _).1
theorem Dx.outs_{W x}(f:Dx H W P a n cap i bs u1 u2 u3 ins vs outs)(X:Chg (λb=>u3.ownBlock=some b) W W')(al:W'.ownsRow (H.heap.size+2) 3 1 (hC g m c) m ((outs++[x]).map (Value.int .i64)))(aq:m=(outs++[x]).length)(aR:u3.ownBlock=some g\/g=W.heap.size):Dx H (W'.setCell ⟨H.heap.size+1,2,none⟩ (hC g m c)) P a n cap i bs u1 u2 (hC g m c) ins vs (outs++[x]):=by
 have aK:=f.p0;have aS:∀b,u3.ownBlock=some b->_:=λb hb=>(eH f.dg.r3 hb).1;have hb:=jJ f.bx X (λc=>hM (aS _ c));exact f.set X (λb hb=>.inr (aS b hb)) (rW f.rd X λb hb=>hM (aS b hb)) (f.dg.outs_ X al aq (aR.imp id λe=>Nat.le_of_eq e.symm)) (eP _ _ _ yac) (yd hb _).2
variable{w W W':World}{P n cap i j:Nat}{a:Option Addr}{bs aT:List Int}{u:Value}
structure Iw(w:World)(P n cap:Nat)(a:Option Addr)(bs:List Int)(i:Nat)(js:List Int)(u:Value)(W:World):Prop where
 rd:RdF W P a n cap i bs
 own:W.ownsRow w.heap.size 3 1 u js.length (js.map (Value.int .i64))
 p0:P<w.heap.size
 kp:Kept P (P+1) w W
theorem Iw.step(h:Iw w P n cap a bs i aT u W)(r:RdF W' P a n cap j bs)(k:Kept P (P+1) W W'):Iw w P n cap a bs j aT u W':=
 have aK:=h.p0
 ⟨r,fX h.own k λ_ e=>.inr (hM ((eH h.own e).1)),aK,h.kp.trans k⟩
theorem Iw.keep0(h:Iw w P n cap a bs i aT u W)(k:Kept 0 0 W W'):Iw w P n cap a bs i aT u W':=h.step (h.rd.keep0 k) (fh k)
theorem Iw.next(h:V (Iw w P n cap a bs i aT u W)):Calls prog 33 #[hB P] W λe W'=>e=.returned (hD (nv bs i:Int))/\Iw w P n cap a bs (ni bs i) aT u W':=
 (jh W P a n cap i bs h.o.rd).mono λ_ _ ⟨e,r,k,_⟩=>⟨e,h.o.step r k⟩
theorem Iw.app(h:Iw w P n cap a bs i aT u W){v}(aq:m=(aT++[v]).length)(o:W'.ownsRow w.heap.size 3 1 (hC g m c) m ((aT++[v]).map (Value.int .i64)))(k:Chg (λb=>u.ownBlock=some b) W W'):Iw w P n cap a bs i (aT++[v]) (hC g m c) W':=by
 subst aq;have ai:Kept _ _ W _:=⟨k.os,k.tape,k.output,k.size,λb hb hn=>k.block b hb λe=>hn (eH h.own e)⟩
 exact⟨h.rd.keep ai (.inl h.p0),o,h.p0,h.kp.new ai yad⟩
theorem Iw.form(h:Iw w P n cap a bs i aT u W):∃aE cE,u=.slice aE aT.length cE:=by
 rcases h.own.2 with⟨e,bc⟩|⟨g,c,_,e,_⟩
 ·exact⟨_,0,by rw[e,bc]⟩
 exact⟨_,c,e⟩
def slN:Value->Nat
 |.slice _ m _=>m
 |_=>0
variable{w W W':World}{P n cap i j:Nat}{a:Option Addr}{bs aT:List Int}{u:Value}
def dpL(bs:List Int)(i:Nat):Nat->List Int
 |0=>[]
 |k+1=>dpL bs i k++[(nv bs (niN bs i k):Int)%5]
theorem ye(bs i):∀k,(dpL bs i k).length=k
 |0=>rfl
 |k+1=>by rw[dpL,yal,ye _ i k];rfl
def dpX(x:Nat):List Int:=if x=250 then[5]else if x=251 then[-1]else if x=252 then List.replicate 50 0 else[]
def dpM(bs:List Int)(i:Nat):List Int:=dpL bs (ni bs i) (nv bs i%6)++dpX (nv bs i)
def PsD(w:World)(P n cap:Nat)(a:Option Addr)(bs:List Int)(j:Nat)(ps:List Int)(e:Ending)(w':World):Prop:=∃aE cE js,e=.returned (.slice aE js.length cE)/\js=ps/\Iw w P n cap a bs j js (.slice aE js.length cE) w'
theorem Lc(C:RdF w P a n cap i bs):Calls prog 14 #[hB P] w (PsD w P n cap a bs (niN bs (ni bs i) (nv bs i%6)) (dpM bs i)):=by
 have ak:=fH C.ys i;have bu:V _:=jh _ _ _ _ _ _ _ C;have hP:=C.lt;have bO:V _:=λj=>fH C.ys j;clear C;obtain⟨nn,f,am⟩:∃m:Nat,nv bs i%6=m/\(nv bs i:Int)%6=m:=⟨_,rfl,by omega⟩
 have bP:nn<6:=xaa;unfold dpM;rw[f];clear f;go_enter func14,ntmps14;go_upto_region 2 with (go_at_call 33;refine yaj bu.o ?_;rintro e az ⟨rfl,av,aj,-⟩;have bW:V (Iw w P n _ a _ (niN bs (ni _ i) 0) (dpL bs (ni bs i) 0) _ _):=⟨av,yaw _ _ _ _,hP,aj⟩;clear av aj);clear bu;generalize nv _ i=x at*;go_wp2_with fail;rw[am];go_loopw [5,6] (λu t W=>∃k:Nat,k<=nn/\t=hD k/\V (Iw w P n cap a bs (niN bs (ni bs i) k) (dpL bs (ni bs i) k) u W)) (λ_ t _=>nn-(intOf t).toNat)
 case atStart=>exact⟨0,yae,rfl,bW.o⟩
 case round=>
  obtain⟨k,N,rfl,a6⟩:=hrel;clear bW;have z:V _:=ye bs (ni bs i) k;have h:(dpL bs (ni bs i) k).length<=7:=hR z.o
  by_cases aC:k<nn
  ·have bW:V _:=a6.o;have bZ:V (niN _ (ni bs i) (k+1)=ni bs _/\dpL _ (ni bs i) (k+1)=dpL _ _ k++[(nv bs _:Int)%5]):=⟨rfl,rfl⟩
   clear a6;generalize niN _ _ k=p at*;generalize dpL _ _ k=aT at*;have bX:=bO.o p
   go_wp2_with (first
    |(go_at_call 33;refine yaj (Iw.next bW) ?_;rintro e W2 ⟨rfl,a6⟩;have bo:V _:=λo=>a6.keep0 (ez 0 0 _ o);clear a6 bW)
    |(at_builtin;refine fk _ rfl _ _ rfl _ u5 _ rfl (bo.o _).own _ ((nv bs p:Int)%5) rfl xac xaa (bo.o _).kp.size ?_;intro g9 X n9 bg bJ G F _;have q:V _:=(bo.o _).app bJ G F;clear bJ G F))
   go_roundw;exact⟨k+1,by omega,by go_num,by rw[bZ.o.1,bZ.o.2];exact q.o⟩;simp[intOf];omega
  have b2:k=nn:=xaa;subst b2;have bW:V _:=a6.o;clear a6;have bU:V (k=0->dpL bs (ni bs i) k=[]):=λc=>by subst c;rfl
  generalize dpL _ _ k=aT at*;obtain⟨aE,cE,aH⟩:=bW.o.form;subst aH;have bo:V _:=λo=>bW.o.keep0 (ez 0 0 _ o);rcases (by omega:(x:Int)=250\/(x:Int)=251\/(x:Int)=252\/((x:Int)≠250/\(x:Int)≠251/\(x:Int)≠252)) with ak|ak|ak|⟨ak,cr,cb⟩
  ·have HD:V (dpX x=[5]):=by show _=_;rw[show x=250 by omega];rfl
   go_wp2_with (at_builtin;refine fk _ rfl _ _ rfl _ _ _ rfl (bo.o _).own _ 5 rfl xac xaa (bo.o _).kp.size ?_;intro g9 X n9 bg bJ G F _;subst bJ;have q:V _:=(bo.o _).app rfl G F;clear G F);exact xja
  ·have HD:V (dpX x=[-1]):=by show _=_;rw[show x=251 by omega];rfl
   go_wp2_with (at_builtin;refine fk _ rfl _ _ rfl _ _ _ rfl (bo.o _).own _ (-1) rfl xac xaa (bo.o _).kp.size ?_;intro g9 X n9 bg bJ G F _;subst bJ;have q:V _:=(bo.o _).app rfl G F;clear G F);exact xja
  ·obtain rfl:x=252:=xaa;have T:k=0:=xaa;obtain rfl:aT=[]:=bU.o T;have aZ:V _:=T;clear bo am z h T;go_wp2_with fail;clear ak;go_loopw [5] (λu W=>∃(m cE:Nat) (aE:Option Addr),m<=50/\u=.slice aE m cE/\V (Iw w P n cap a bs (niN bs (ni bs i) k) (List.replicate m ((k:Int)%5)) u W)) (λu _=>51-slN u)
   case atStart=>exact⟨0,_,_,by omega,rfl,bW.o⟩
   case round=>
    obtain⟨m,cE,aE,aq,rfl,a6⟩:=hrel;have bW:V _:=a6.o;have bo:V _:=λo=>a6.o.keep0 (ez 0 0 _ o);clear a6;have r:(List.replicate m ((k:Int)%5)).length<=51:=by rw[List.length_replicate];omega
    by_cases bz:(m:Int)<50+k%2
    ·go_wp2_with (at_builtin;refine fk _ rfl _ _ rfl _ _ _ rfl (bo.o _).own _ (k%5) rfl xac xaa (bo.o _).kp.size ?_;intro g9 X n9 bg bJ G F _;have q:V _:=(bo.o _).app bJ G F;rw[yal,List.length_replicate]at bJ;obtain rfl:n9=m+1:=bJ;clear G F);go_roundw
     case rel=>exact⟨_,_,_,hM aZ.o,rfl,by rw[List.replicate_succ'];exact q.o⟩
     case measure=>show 51-(m+1)<51-m;omega
    obtain rfl:m=50:=hM aZ.o
    go_wp2;go_ret;exact⟨_,_,List.replicate _ (k%5),by rw[List.length_replicate];rfl,hS aZ.o,by rw[List.length_replicate];exact bW.o⟩
  have HD:V (dpX x=[]):=by show _=_;rw[dpX,hF xaa,hF xaa,hF xaa]
  go_wp2;go_ret;exact⟨_,_,_,rfl,by rw[HD.o,List.append_nil],bW.o⟩
