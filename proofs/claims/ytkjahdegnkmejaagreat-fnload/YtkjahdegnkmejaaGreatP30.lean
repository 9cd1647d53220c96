import Derived.Test.YtkjahdegnkmejaaGreatP25
import Derived.Test.YtkjahdegnkmejaaGreatP27
import Derived.Test.YtkjahdegnkmejaaGreatP28
import Derived.Test.YtkjahdegnkmejaaGreatP26
namespace Go.Proofs.Z
variable{Zp:Prop}
open Tryz Go.RowKit Flt
set_option maxRecDepth 1000000
set_option maxHeartbeats 0
section
variable{bs ins:List Int}{vs:List Vl}
def opT(k:Nat):Int:=[0,2,3,4,5,7,4,2,3].getD k 0
def gwM(ins:List Int)(vs:List Vl)(bs:List Int)(i:Nat):Vl×Nat:=
 if nv bs i%16=0\/vs.length=0 then
  if 0<ins.length/\nv bs (ni bs i)%2=1 then (⟨0,ins.getD (nv bs (ni bs (ni bs i))%ins.length) 0,((nv bs (ni bs (ni bs i))%ins.length:Nat):Int),0,0,0⟩,ni bs (ni bs (ni bs i)))
  else (⟨1,((1+nv bs (dfI bs (if 0<ins.length then ni bs (ni bs i)else ni bs i))%4:Nat):Int),0,0,0,fb (dfV bs (if 0<ins.length then ni bs (ni bs i)else ni bs i))⟩,ni bs (dfI bs (if 0<ins.length then ni bs (ni bs i)else ni bs i)))
 else if nv bs i%16<9 then (⟨opT (nv bs i%16),(vd vs (nv bs (ni bs i)%vs.length)).len,((nv bs (ni bs i)%vs.length:Nat):Int),i9 vs (vd vs (nv bs (ni bs i)%vs.length)).len (nv bs (ni bs (ni bs i))),0,0⟩,ni bs (ni bs (ni bs i)))
 else if nv bs i%16=9 then (⟨6,(vd vs (nv bs (ni bs i)%vs.length)).len,((nv bs (ni bs i)%vs.length:Nat):Int),0,0,0⟩,ni bs (ni bs i))
 else if nv bs i%16=10 then (⟨8,(vd vs (nv bs (ni bs i)%vs.length)).len,((nv bs (ni bs i)%vs.length:Nat):Int),i9 vs (vd vs (nv bs (ni bs i)%vs.length)).len (nv bs (ni bs (ni bs i))),i9 vs (vd vs (nv bs (ni bs i)%vs.length)).len (nv bs (ni bs (ni bs (ni bs i)))),0⟩,ni bs (ni bs (ni bs (ni bs i))))
 else if nv bs i%16=11 then (⟨9,1,((nv bs (ni bs i)%vs.length:Nat):Int),0,0,0⟩,ni bs (ni bs i))
 else if nv bs i%16=12 then (⟨11,1,((nv bs (ni bs i)%vs.length:Nat):Int),0,((nv bs (ni bs (ni bs i))%(vd vs (nv bs (ni bs i)%vs.length)).len.toNat:Nat):Int),0⟩,ni bs (ni bs (ni bs i)))
 else if nv bs i%16=13 then (⟨13,(vd vs (nv bs (ni bs i)%vs.length)).len,((nv bs (ni bs i)%vs.length:Nat):Int),0,0,0⟩,ni bs (ni bs i))
 else if i9 vs 1 (nv bs (ni bs (ni bs i)))<0 then (⟨9,1,((nv bs (ni bs i)%vs.length:Nat):Int),0,0,0⟩,ni bs (ni bs (ni bs (ni bs i))))
 else if nv bs i%16=14 then (⟨10,((1+nv bs (ni bs (ni bs (ni bs i)))%4:Nat):Int),i9 vs 1 (nv bs (ni bs (ni bs i))),0,0,0⟩,ni bs (ni bs (ni bs (ni bs i))))
 else (⟨12,((1+nv bs (ni bs (ni bs (ni bs i)))%4:Nat):Int),i9 vs 1 (nv bs (ni bs (ni bs i))),0,((nv bs (ni bs (ni bs (ni bs (ni bs i))))%(1+nv bs (ni bs (ni bs (ni bs i)))%4):Nat):Int),0⟩,ni bs (ni bs (ni bs (ni bs (ni bs i)))))
theorem LW{w I P a n cap i a1 K a3 Y c1 c2 aa c3 outs}(f:DG w I (.slice a1 Y c1) (.slice K vs.length c2) (.slice a3 aa c3) ins vs outs)(X:RdF w P a n cap i bs)(hP:P<I)(hn:vs.length<=100000)(bI:∀k,k<vs.length->1<=(vd vs k).len/\(vd vs k).len<=1000):
  Calls prog 62 #[eX a1 Y c1 K vs.length c2 a3 aa c3,ge P] w (GwO w I P a n cap (gwM ins vs bs i).2 bs (.slice a1 Y c1) (.slice K vs.length c2) (.slice a3 aa c3) ins vs outs (gwM ins vs bs i).1):=by
 have ad:Y=ins.length:=f4 f.r1;unfold gwM;by_cases aj:nv bs i%16=0\/vs.length=0
 ·rw[iv aj];by_cases B:0<ins.length/\nv bs (ni bs i)%2=1
  ·rw[iv B];have:=JS f X hP hn xaa B.2 aj;rw[ad]at this⊢;exact this
  rw[ip B];by_cases N:0<ins.length
  ·rw[iv N];exact tC f X hP hn (.inr ⟨by omega,λc=>B ⟨N,c⟩,rfl⟩) aj
  rw[ip N];exact tC f X hP hn (.inl ⟨by omega,rfl⟩) aj
 rw[ip aj];have aL:0<vs.length:=xaa;have aH:nv bs i%16<16:=Nat.mod_lt _ xaa;have aD:=bI _ (Nat.mod_lt (nv bs (ni bs i)) aL);by_cases aX:nv bs i%16<9
 ·rw[iv aX];refine FZ f X hP hn aL rfl ?_;rcases (by omega:nv bs i%16=1\/nv bs i%16=2\/nv bs i%16=3\/nv bs i%16=4\/nv bs i%16=5\/nv bs i%16=6\/nv bs i%16=7\/nv bs i%16=8) with e|e|e|e|e|e|e|e
  all_goals (rw[e];decide)
 rw[ip aX];by_cases c:nv bs i%16=9
 ·rw[iv c];exact tD f X hP hn aL rfl (.inl ⟨c,rfl,rfl⟩)
 rw[ip c];by_cases c:nv bs i%16=10
 ·rw[iv c];exact F0 f X hP hn aL rfl c
 rw[ip c];by_cases c:nv bs i%16=11
 ·rw[iv c];exact tD f X hP hn aL rfl (.inr (.inl ⟨c,rfl,rfl⟩))
 rw[ip c];by_cases c:nv bs i%16=12
 ·rw[iv c];exact CW f X hP hn aL xaa xaa xaa c
 rw[ip c];by_cases c:nv bs i%16=13
 ·rw[iv c];exact tD f X hP hn aL rfl (.inr (.inr ⟨c,rfl,rfl⟩))
 rw[ip c];by_cases b:i9 vs 1 (nv bs (ni bs (ni bs i)))<0
 ·rw[iv b];exact CU f X hP hn aL rfl b xaa
 rw[ip b];by_cases c:nv bs i%16=14
 ·rw[iv c];exact CV f X hP hn aL rfl xaa c
 rw[ip c];exact FX f X hP hn aL rfl xaa xaa
theorem BH(vs j):(vd (vs.map sv) j).len=(vd vs j).len:=by
 exact xhr
theorem yW(vs q fr):∀m k,lS (vs.map sv) q fr m k=lS vs q fr m k
 |0,_=>rfl
 |m+1,k=>by
  rw[lS,lS,yW vs q fr m (k+1),List.length_map]
  rw[show((vs.map sv).getD ((fr+k)%vs.length) i0).len=(vs.getD ((fr+k)%vs.length) i0).len from BH vs _]
theorem F1(vs q fr):i9 (vs.map sv) q fr=i9 vs q fr:=by
 unfold i9;rw[yW,List.length_map]
theorem F2(ins vs bs i):gwM ins (vs.map sv) bs i=gwM ins vs bs i:=by
 unfold gwM;simp only[List.length_map,BH,F1]
theorem qp{i}(hi:∀k,k<ins.length->1<=ins.getD k 0/\ins.getD k 0<=1000)(bI:∀k,k<vs.length->1<=(vd vs k).len/\(vd vs k).len<=1000):1<=(gwM ins vs bs i).1.len/\(gwM ins vs bs i).1.len<=1000:=by
 unfold gwM;by_cases aj:nv bs i%16=0\/vs.length=0
 ·rw[iv aj];split
  ·rename_i B;exact hi _ (Nat.mod_lt _ B.1)
  simp only;omega
 rw[ip aj];have aD:=bI _ (Nat.mod_lt (nv bs (ni bs i)) (by omega:0<vs.length));repeat' split
 all_goals (simp only;omega)
end
section
attribute[local go_sem] eE eC eB
variable{w0 F:World}{p P I n cap i m g c ab:Nat}{bE R a6 u1 u2 u3:Value}{a:Option Addr}{bs ins outs l C:List Int}{vs aM:List Vl}
theorem fZ(w){bS rest o a Q}(am:o.guard=none)(s x)
  (aR:o.op=.call {callee:=.builtin .append,args:=#[s,x],argTypes:=#[24,24]})
  (I) (v) (aU) (aw:a.eval s=v) (bi:w.ownsRow I 3 1 v aU.length (aU.map (Value.int .i64)))
  (al) (y) (aH:a.eval x=.slice (some al) 1 1) (d:w.cell? al=some (ih y))
  (f:aU.length+1<=1000000) (ae:I<=w.heap.size)
  (h:∀g cap n O,n=(aU++[y]).length->O.ownsRow I 3 1 (ia g n cap) n ((aU++[y]).map (Value.int .i64))->Chg (λb=>v.ownBlock=some b) w O->(v.ownBlock=some g\/g=w.heap.size)->wpList prog bS Q rest (a.put o.dst (ia g n cap)) O):wpList prog bS Q (o::rest) a w:=by
 obtain⟨bY,hi,cg,b8,cc⟩:=info_parts qd;refine wpList_append_lies w am s x _ aR I 3 _ _ 1 8 underlying24 hi cg b8 cc rfl xab v _ _ aw bi _ 1 1 [ih y] aH rfl ?_ ?_ xab (by unfold maxLen;omega) xaa ae _ rfl ?_
 ·grind[Addr.add]
 ·intro u G;simp at G;subst G;rfl
 intro g cap O B N h3 _;have e:aU.length+1=(aU++[y]).length:=by grind
 rw[e]at B⊢;refine h g _ _ _ rfl ?_ (fA N) h3;grind
structure Dx(w0 W:World)(P:Nat)(a:Option Addr)(n cap i:Nat)(bs:List Int)(u1 u2 u3:Value)(ins:List Int)(vs:List Vl)(outs:List Int):Prop where
 rd:RdF W P a n cap i bs
 dg:DG W (w0.heap.size+2) u1 u2 u3 ins vs outs
 bx:RB W (w0.heap.size+1) u1 u2 u3
 rs:RB W w0.heap.size iM iM iM
 p0:P<w0.heap.size
 k0:Kept P (P+1) w0 W
theorem Dx.step{W}(f:Dx w0 W P a n cap i bs u1 u2 u3 ins vs outs)(X:RdF F P a n cap ab bs)(k:Kept P (P+1) W F):Dx w0 F P a n cap ab bs u1 u2 u3 ins vs outs:=
 ⟨X,f.dg.kept k (i4 f.p0),f.bx.kept k (i4 f.p0),f.rs.kept k (i4 f.p0),f.p0,f.k0.trans k⟩
theorem Dx.keep{W}(f:Dx w0 W P a n cap i bs u1 u2 u3 ins vs outs)(k:Kept 0 0 W F):Dx w0 F P a n cap i bs u1 u2 u3 ins vs outs:=f.step (f.rd.keep0 k) (eZ k)
theorem Dx.next{W}(f:Dx w0 W P a n cap i bs u1 u2 u3 ins vs outs):
  Calls prog 11 #[ge P] W λe F=>e=.returned (ih (nv bs i:Int))/\Dx w0 F P a n cap (ni bs i) bs u1 u2 u3 ins vs outs:=
 (iD W P a n cap i bs f.rd).mono λ_ _ q=>⟨q.1,f.step q.2.1 q.2.2.1⟩
theorem Dx.start(X:RdF w0 P a n cap i bs):Dx w0 ((w0.alloc fO).alloc fO) P a n cap i bs iM iM iM [] [] []:=by
 have ap:=eA 0 0 w0 fO;have aC:=eA 0 0 (w0.alloc fO) fO;have hb:=iU (w0.alloc fO);rw[show(w0.alloc _).heap.size=w0.heap.size+1 by simp]at hb;refine⟨X.keep0 (ap.trans aC),⟨yaw _ _ _ _,yaw _ _ _ _,yaw _ _ _ _,?_,?_,?_,?_,by simp⟩,hb,(iU _).keep aC,X.lt,eZ (ap.trans aC)⟩
 ·intro b h;cases h
 ·intro b h;cases h
 ·intro b h;cases h
 intro v h;cases h
theorem Dx.set{W bU bf bb bc S}(f:Dx w0 W P a n cap i bs u1 u2 u3 ins vs outs)(c:Chg S W F)(a5:∀b,S b->b=P\/w0.heap.size+2<=b)(X:RdF F P a n cap ab bs)(aN:DG F (w0.heap.size+2) bf bb bc l aM C)(k:Kept (w0.heap.size+1) (w0.heap.size+1+1) F bU)(hb:RB bU (w0.heap.size+1) bf bb bc):Dx w0 bU P a n cap ab bs bf bb bc l aM C:=by
 have aA:=f.p0;have e:∀o,_:=λo=>c.cell (p:=⟨w0.heap.size,o,none⟩) f.rs.sz (λq=>by have:=a5 _ q;simp at this;omega);have x:∀o,_:=λo=>c.frozen (p:=⟨w0.heap.size,o,none⟩) f.rs.sz (λq=>by have:=a5 _ q;simp at this;omega);have au:RB F _ _ _ _:=⟨yak f.rs.sz c.size,jn e f.rs.q0,jn e f.rs.q1,jn e f.rs.q2,jn x f.rs.f0,jn x f.rs.f1,jn x f.rs.f2⟩
 refine⟨X.keep k (.inl xaa),aN.kept k xaa,hb,au.kept k xaa,aA,⟨k.os.trans (c.os.trans f.k0.os),k.tape.trans (c.tape.trans f.k0.tape),k.output.trans (c.output.trans f.k0.output),yao f.k0.size (yao c.size k.size),λb hb hn=>?_⟩⟩;have B:=f.k0.size;have N:=c.size;rw[k.block b xaa xaa,c.block b xaa (λq=>i4 (a5 b q))];exact f.k0.block b hb hn
theorem oN{W}(t:RB W p bE R a6)(x y z):RB (fk W p x y z) p x y z:=by
 obtain⟨a8,aJ,aP⟩:=fd W p _ _ _ t.q0 t.q1 t.q2 x y z;have k:=fy W p x y z;refine⟨yak t.sz k.size,a8,aJ,aP,?_,?_,?_⟩
 ·unfold fk;simp[t.f0]
 ·unfold fk;simp[t.f1]
 unfold fk;simp[t.f2]
theorem xo{W}(t:RB W p bE R a6)(x):RB (W.setCell ⟨p,0,none⟩ x) p x R a6/\RB (W.setCell ⟨p,2,none⟩ x) p bE R x:=by
 refine⟨⟨by simpa using t.sz,fc _ _ _ _ _ t.q0,by rw[eG _ _ _ _ _ _ (.inr xaa)];exact t.q1,by rw[eG _ _ _ _ _ _ (.inr xaa)];exact t.q2,by simp[t.f0],by simp[t.f1],by simp[t.f2]⟩,⟨by simpa using t.sz,by rw[eG _ _ _ _ _ _ (.inr xaa)];exact t.q0,by rw[eG _ _ _ _ _ _ (.inr xaa)];exact t.q1,fc _ _ _ _ _ t.q2,by simp[t.f0],by simp[t.f1],by simp[t.f2]⟩⟩
theorem DG.vals{W}(f:DG W I u1 u2 u3 ins vs outs)(aX:Chg (λb=>u2.ownBlock=some b) W F)(aR:F.ownsRow I 79 6 (ia g m c) m (fU aM))(aD:m=aM.length)(az:u2.ownBlock=some g\/W.heap.size<=g)(J:∀v∈aM,v.k<18446744073709551616):DG F I u1 (ia g m c) u3 ins aM outs:=by
 subst aD;refine⟨eQ f.r1 aX λb hb ai=>f.a12 b hb ai,aR,eQ f.r3 aX λb hb ai=>f.a23 b ai hb,?_,f.a13,?_,J,yao f.sz aX.size⟩
 ·intro b hb ai;have e:b=g:=by simpa[Value.ownBlock] using ai.symm
  subst e;rcases az with c|c
  ·exact f.a12 _ hb c
  have:=(eF f.r1 hb).2;omega
 intro b hb ai;have e:b=g:=by simpa[Value.ownBlock] using hb.symm
 subst e;rcases az with c|c
 ·exact f.a23 _ c ai
 have:=(eF f.r3 ai).2;omega
theorem DG.ins_{W}(f:DG W I u1 u2 u3 ins vs outs)(aX:Chg (λb=>u1.ownBlock=some b) W F)(aR:F.ownsRow I 3 1 (ia g m c) m (l.map (Value.int .i64)))(aD:m=l.length)(az:u1.ownBlock=some g\/W.heap.size<=g):DG F I (ia g m c) u2 u3 l vs outs:=by
 subst aD;refine⟨aR,eQ f.r2 aX λb hb ai=>f.a12 b ai hb,eQ f.r3 aX λb hb ai=>f.a13 b ai hb,?_,?_,f.a23,f.k,yao f.sz aX.size⟩
 ·intro b hb ai;have e:b=g:=by simpa[Value.ownBlock] using hb.symm
  subst e;rcases az with c|c
  ·exact f.a12 _ c ai
  have:=(eF f.r2 ai).2;omega
 intro b hb ai;have e:b=g:=by simpa[Value.ownBlock] using hb.symm
 subst e;rcases az with c|c
 ·exact f.a13 _ c ai
 have:=(eF f.r3 ai).2;omega
theorem DG.outs_{W}(f:DG W I u1 u2 u3 ins vs outs)(aX:Chg (λb=>u3.ownBlock=some b) W F)(aR:F.ownsRow I 3 1 (ia g m c) m (C.map (Value.int .i64)))(aD:m=C.length)(az:u3.ownBlock=some g\/W.heap.size<=g):DG F I u1 u2 (ia g m c) ins vs C:=by
 subst aD;refine⟨eQ f.r1 aX λb hb ai=>f.a13 b hb ai,eQ f.r2 aX λb hb ai=>f.a23 b hb ai,aR,f.a12,?_,?_,f.k,yao f.sz aX.size⟩
 ·intro b hb ai;have e:b=g:=by simpa[Value.ownBlock] using ai.symm
  subst e;rcases az with c|c
  ·exact f.a13 _ hb c
  have:=(eF f.r1 hb).2;omega
 intro b hb ai;have e:b=g:=by simpa[Value.ownBlock] using ai.symm
 subst e;rcases az with c|c
 ·exact f.a23 _ hb c
 have:=(eF f.r2 hb).2;omega
theorem aI.qbc(h:Zp:=by
 have hb:=jd f1.bx aX (λc=>i4 (aZ _ c));exact⟨_,_,rfl,hb,f1.set aX (λb hb=>.inr (aZ b hb)) (mY f1.rd aX λb hb=>i4 (aZ b hb)) (f1.dg.vals aX bi xac az J) (fy _ _ _ _ _) (oN hb _ _ _)⟩):Zp:=h
open aI in
theorem Dx.put{w0 W P a n cap i bs a1 K a3 Y c1 c2 aa c3 ins vs outs aq}(f:Dx w0 W P a n cap i bs (.slice a1 Y c1) (.slice K vs.length c2) (.slice a3 aa c3) ins vs outs)(k:Kept 0 0 W aq)(v)(aL:v.k<18446744073709551616)(hn:vs.length<=100000):
  Calls prog 59 #[eX a1 Y c1 K vs.length c2 a3 aa c3,v.agg] aq λe an=>∃aI cap',e=.returned (eX a1 Y c1 (some ⟨aI,0,none⟩) (vs.length+1) cap' a3 aa c3)/\RB an (w0.heap.size+1) (.slice a1 Y c1) (.slice K vs.length c2) (.slice a3 aa c3)/\Dx w0 (fk an (w0.heap.size+1) (.slice a1 Y c1) (ia aI (vs.length+1) cap') (.slice a3 aa c3)) P a n cap i bs (.slice a1 Y c1) (ia aI (vs.length+1) cap') (.slice a3 aa c3) ins (vs++[v]) outs:=by
 have f1:=f.keep k;have aA:=f.p0;refine(rm _ _ _ _ _ _ _ _ _ _ _ v f1.dg.r2 f1.dg.sz xaa).mono ?_;rintro e an ⟨aI,cap',rfl,bi,aw⟩;have aZ:∀b,(Value.slice K _ _).ownBlock=some b->_:=λb hb=>(eF f1.dg.r2 hb).1;exact qbb
theorem Dx.grow{W a1 K a3 Y c1 c2 aa c3}(f:Dx w0 W P a n cap i bs (.slice a1 Y c1) (.slice K vs.length c2) (.slice a3 aa c3) ins vs outs)(hn:vs.length<=100000)(bI:∀k,k<vs.length->1<=(vd vs k).len/\(vd vs k).len<=1000):
  Calls prog 62 #[eX a1 Y c1 K vs.length c2 a3 aa c3,ge P] W λe an=>∃v aI cap',e=.returned (eX a1 Y c1 (some ⟨aI,0,none⟩) (vs.length+1) cap' a3 aa c3)/\sv v=(gwM ins vs bs i).1/\RB an (w0.heap.size+1) (.slice a1 Y c1) (.slice K vs.length c2) (.slice a3 aa c3)/\Dx w0 (fk an (w0.heap.size+1) (.slice a1 Y c1) (ia aI (vs.length+1) cap') (.slice a3 aa c3)) P a n cap (gwM ins vs bs i).2 bs (.slice a1 Y c1) (ia aI (vs.length+1) cap') (.slice a3 aa c3) ins (vs++[v]) outs:=by
 have aA:=f.p0;refine(LW f.dg f.rd xaa hn bI).mono ?_;rintro e an ⟨v,aI,cap',rfl,bc,aN,au,ai,az⟩;have aZ:∀b,(Value.slice K vs.length c2).ownBlock=some b->w0.heap.size+2<=b:=λb hb=>(eF f.dg.r2 hb).1;have hb:=jd f.bx ai (by rintro (c|c);omega;have:=aZ _ c;omega);exact⟨v,aI,cap',rfl,bc,hb,f.set ai (by rintro b (c|c);exact .inl c;exact .inr (aZ b c)) au aN (fy _ _ _ _ _) (oN hb _ _ _)⟩
theorem Dx.ins_{W x}(f:Dx w0 W P a n cap i bs u1 u2 u3 ins vs outs)(aX:Chg (λb=>u1.ownBlock=some b) W F)(aR:F.ownsRow (w0.heap.size+2) 3 1 (ia g m c) m ((ins++[x]).map (Value.int .i64)))(aD:m=(ins++[x]).length)(az:u1.ownBlock=some g\/g=W.heap.size):Dx w0 (F.setCell ⟨w0.heap.size+1,0,none⟩ (ia g m c)) P a n cap i bs (ia g m c) u2 u3 (ins++[x]) vs outs:=by
 have aA:=f.p0;have aZ:∀b,u1.ownBlock=some b->_:=λb hb=>(eF f.dg.r1 hb).1;have hb:=jd f.bx aX (λc=>i4 (aZ _ c));exact f.set aX (λb hb=>.inr (aZ b hb)) (mY f.rd aX λb hb=>i4 (aZ b hb)) (f.dg.ins_ aX aR aD (az.imp id λe=>Nat.le_of_eq e.symm)) (eU _ _ _ yac) (xo hb _).1
theorem Dx.outs_{W x}(f:Dx w0 W P a n cap i bs u1 u2 u3 ins vs outs)(aX:Chg (λb=>u3.ownBlock=some b) W F)(aR:F.ownsRow (w0.heap.size+2) 3 1 (ia g m c) m ((outs++[x]).map (Value.int .i64)))(aD:m=(outs++[x]).length)(az:u3.ownBlock=some g\/g=W.heap.size):Dx w0 (F.setCell ⟨w0.heap.size+1,2,none⟩ (ia g m c)) P a n cap i bs u1 u2 (ia g m c) ins vs (outs++[x]):=by
 have aA:=f.p0;have aZ:∀b,u3.ownBlock=some b->_:=λb hb=>(eF f.dg.r3 hb).1;have hb:=jd f.bx aX (λc=>i4 (aZ _ c));exact f.set aX (λb hb=>.inr (aZ b hb)) (mY f.rd aX λb hb=>i4 (aZ b hb)) (f.dg.outs_ aX aR aD (az.imp id λe=>Nat.le_of_eq e.symm)) (eU _ _ _ yac) (xo hb _).2
