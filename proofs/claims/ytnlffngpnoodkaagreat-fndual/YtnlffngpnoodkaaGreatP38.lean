import Derived.Test.YtnlffngpnoodkaaGreatP35
import Derived.Test.YtnlffngpnoodkaaGreatP34
import Derived.Test.YtnlffngpnoodkaaGreatP36
namespace Go.Proofs.YtnlffngpnoodkaaGreat
set_option maxRecDepth 1000000
set_option maxHeartbeats 0
section
open Go.RowKit Flt
variable {bs ins:List Int} {vs:List Vl}
def opT (k:Nat):Int:=[0,2,3,4,5,7,4,2,3].getD k 0
def gwM (ins:List Int)(vs:List Vl)(bs:List Int)(i:Nat):Vl×Nat:=
 if nv bs i%16=0\/vs.length=0 then
  if 0<ins.length/\nv bs (ni bs i)%2=1 then (⟨0,ins.getD (nv bs (ni bs (ni bs i))%ins.length) 0,((nv bs (ni bs (ni bs i))%ins.length:Nat):Int),0,0,0⟩,ni bs (ni bs (ni bs i)))
  else (⟨1,((1+nv bs (dfI bs (if 0<ins.length then ni bs (ni bs i) else ni bs i))%4:Nat):Int),0,0,0,0⟩,ni bs (dfI bs (if 0<ins.length then ni bs (ni bs i) else ni bs i)))
 else if nv bs i%16<9 then (⟨opT (nv bs i%16),(vd vs (nv bs (ni bs i)%vs.length)).len,((nv bs (ni bs i)%vs.length:Nat):Int),kC vs (vd vs (nv bs (ni bs i)%vs.length)).len (nv bs (ni bs (ni bs i))),0,0⟩,ni bs (ni bs (ni bs i)))
 else if nv bs i%16=9 then (⟨6,(vd vs (nv bs (ni bs i)%vs.length)).len,((nv bs (ni bs i)%vs.length:Nat):Int),0,0,0⟩,ni bs (ni bs i))
 else if nv bs i%16=10 then (⟨8,(vd vs (nv bs (ni bs i)%vs.length)).len,((nv bs (ni bs i)%vs.length:Nat):Int),kC vs (vd vs (nv bs (ni bs i)%vs.length)).len (nv bs (ni bs (ni bs i))),kC vs (vd vs (nv bs (ni bs i)%vs.length)).len (nv bs (ni bs (ni bs (ni bs i)))),0⟩,ni bs (ni bs (ni bs (ni bs i))))
 else if nv bs i%16=11 then (⟨9,1,((nv bs (ni bs i)%vs.length:Nat):Int),0,0,0⟩,ni bs (ni bs i))
 else if nv bs i%16=12 then (⟨11,1,((nv bs (ni bs i)%vs.length:Nat):Int),0,((nv bs (ni bs (ni bs i))%(vd vs (nv bs (ni bs i)%vs.length)).len.toNat:Nat):Int),0⟩,ni bs (ni bs (ni bs i)))
 else if nv bs i%16=13 then (⟨13,(vd vs (nv bs (ni bs i)%vs.length)).len,((nv bs (ni bs i)%vs.length:Nat):Int),0,0,0⟩,ni bs (ni bs i))
 else if kC vs 1 (nv bs (ni bs (ni bs i)))<0 then (⟨9,1,((nv bs (ni bs i)%vs.length:Nat):Int),0,0,0⟩,ni bs (ni bs (ni bs (ni bs i))))
 else if nv bs i%16=14 then (⟨10,((1+nv bs (ni bs (ni bs (ni bs i)))%4:Nat):Int),kC vs 1 (nv bs (ni bs (ni bs i))),0,0,0⟩,ni bs (ni bs (ni bs (ni bs i))))
 else (⟨12,((1+nv bs (ni bs (ni bs (ni bs i)))%4:Nat):Int),kC vs 1 (nv bs (ni bs (ni bs i))),0,((nv bs (ni bs (ni bs (ni bs (ni bs i))))%(1+nv bs (ni bs (ni bs (ni bs i)))%4):Nat):Int),0⟩,ni bs (ni bs (ni bs (ni bs (ni bs i)))))
theorem Fc {w:World}{B P:Nat}{a:Option Addr}{n cap i:Nat}{a1 a2 a3:Option Addr}{n1 c1 c2 n3 c3:Nat}{outs:List Int}(f:DG w B (.slice a1 n1 c1) (.slice a2 vs.length c2) (.slice a3 n3 c3) ins vs outs)(hR:RdF w P a n cap i bs)(hP:P<B)(hn:vs.length<=100000)(hL:∀k,k<vs.length->1<=(vd vs k).len/\(vd vs k).len<=1000):
  Calls Tryz.prog 108 #[ip a1 n1 c1 a2 vs.length c2 a3 n3 c3,.pointer (some ⟨P,0,none⟩)] w (GwO w B P a n cap (gwM ins vs bs i).2 bs (.slice a1 n1 c1) (.slice a2 vs.length c2) (.slice a3 n3 c3) ins vs outs (gwM ins vs bs i).1):=by
 have e1:n1=ins.length:=kq f.r1
 unfold gwM
 by_cases h0:nv bs i%16=0\/vs.length=0
 ·rw[if_pos h0]
  by_cases h1:0<ins.length/\nv bs (ni bs i)%2=1
  ·rw[if_pos h1]
   have:=A5 f hR hP hn (by omega) h1.2 h0
   rw[e1] at this ⊢
   exact this
  ·rw[if_neg h1]
   by_cases h2:0<ins.length
   ·rw[if_pos h2]
    exact qB f hR hP hn (.inr ⟨by omega,λc=>h1 ⟨h2,c⟩,rfl⟩) h0
   ·rw[if_neg h2]
    exact qB f hR hP hn (.inl ⟨by omega,rfl⟩) h0
 ·rw[if_neg h0]
  have hv:0<vs.length:=by omega
  have hx:nv bs i%16<16:=Nat.mod_lt _ (by omega)
  have hm:=hL _ (Nat.mod_lt (nv bs (ni bs i)) hv)
  by_cases c9:nv bs i%16<9
  ·rw[if_pos c9]
   refine yP f hR hP hn hv rfl ?_
   rcases (by omega:nv bs i%16=1\/nv bs i%16=2\/nv bs i%16=3\/nv bs i%16=4\/nv bs i%16=5\/nv bs i%16=6\/nv bs i%16=7\/nv bs i%16=8) with e|e|e|e|e|e|e|e
   all_goals (rw[e];decide)
  rw[if_neg c9]
  by_cases c:nv bs i%16=9
  ·rw[if_pos c]
   exact qA f hR hP hn hv rfl (.inl ⟨c,rfl,rfl⟩)
  rw[if_neg c]
  by_cases c:nv bs i%16=10
  ·rw[if_pos c]
   exact yM f hR hP hn hv rfl c
  rw[if_neg c]
  by_cases c:nv bs i%16=11
  ·rw[if_pos c]
   exact qA f hR hP hn hv rfl (.inr (.inl ⟨c,rfl,rfl⟩))
  rw[if_neg c]
  by_cases c:nv bs i%16=12
  ·rw[if_pos c]
   exact xh f hR hP hn hv (by omega) (by omega) (by omega) c
  rw[if_neg c]
  by_cases c:nv bs i%16=13
  ·rw[if_pos c]
   exact qA f hR hP hn hv rfl (.inr (.inr ⟨c,rfl,rfl⟩))
  rw[if_neg c]
  by_cases b:kC vs 1 (nv bs (ni bs (ni bs i)))<0
  ·rw[if_pos b]
   exact xe f hR hP hn hv rfl b (by omega)
  rw[if_neg b]
  by_cases c:nv bs i%16=14
  ·rw[if_pos c]
   exact xg f hR hP hn hv rfl (by omega) c
  rw[if_neg c]
  exact yL f hR hP hn hv rfl (by omega) (by omega)
theorem v8 (vs:List Vl)(j:Nat):(vd (vs.map sv) j).len=(vd vs j).len:=by
 unfold vd
 rw[List.getD_eq_getElem?_getD,List.getD_eq_getElem?_getD,List.getElem?_map]
 cases vs[j]?<;>rfl
theorem ux (vs:List Vl)(q:Int)(fr:Nat):∀m k,mT (vs.map sv) q fr m k=mT vs q fr m k
 |0,_=>rfl
 |m+1,k=>by
  rw[mT,mT,ux vs q fr m (k+1),List.length_map]
  rw[show((vs.map sv).getD ((fr+k)%vs.length) Vl.zero).len=(vs.getD ((fr+k)%vs.length) Vl.zero).len from v8 vs _]
theorem y7 (vs:List Vl)(q:Int)(fr:Nat):kC (vs.map sv) q fr=kC vs q fr:=by
 unfold kC
 rw[ux,List.length_map]
theorem DI (ins:List Int)(vs:List Vl)(bs:List Int)(i:Nat):gwM ins (vs.map sv) bs i=gwM ins vs bs i:=by
 unfold gwM
 simp only[List.length_map,v8,y7]
theorem Bo {i:Nat}(hi:∀k,k<ins.length->1<=ins.getD k 0/\ins.getD k 0<=1000)(hL:∀k,k<vs.length->1<=(vd vs k).len/\(vd vs k).len<=1000):1<=(gwM ins vs bs i).1.len/\(gwM ins vs bs i).1.len<=1000:=by
 unfold gwM
 by_cases h0:nv bs i%16=0\/vs.length=0
 ·rw[if_pos h0]
  split
  ·rename_i h1
   exact hi _ (Nat.mod_lt _ h1.1)
  ·simp only;omega
 ·rw[if_neg h0]
  have hm:=hL _ (Nat.mod_lt (nv bs (ni bs i)) (by omega:0<vs.length))
  repeat' split
  all_goals (simp only;omega)
end
section
open Go.RowKit Flt
attribute [local go_sem] ic ib ia
variable {w0 w W':World} {lo p B k P j n q cap fr n2 i n1 c1 m c2 n3 c3 g c i':Nat} {xs zs:List Nat} {ys bs ins outs ins' outs':List Int} {b0 b1 b2 u1 u2 u3:Value} {a b a1 a2 a3:Option Addr} {xss:List (List Nat)} {vs vs':List Vl} {S:Nat->Prop}
theorem jd (w:World){ops:Array Oper}{rest:List Oper}{o:Oper}{a:Act}{Q:Exit->Act->World->Prop}(hgd:o.guard=none)(s x:Operand)
  (ho:o.op=.call {callee:=.builtin .append,args:=#[s,x],argTypes:=#[23,23]})
  (B:Nat) (v:Value) (js:List Int) (hs:a.eval s=v) (hown:w.ownsRow B 3 1 v js.length (js.map (Value.int .i64)))
  (ad:Addr) (y:Int) (hx:a.eval x=.slice (some ad) 1 1) (hnews:w.cell? ad=some (.int .i64 y))
  (h63:js.length+1<=1000000) (hbase:B<=w.heap.size)
  (h:∀g cap n w',n=(js++[y]).length->w'.ownsRow B 3 1 (.slice (some ⟨g,0,none⟩) n cap) n ((js++[y]).map (Value.int .i64))->Chg (λb=>v.ownBlock=some b) w w'->(v.ownBlock=some g\/g=w.heap.size)->wpList Tryz.prog ops Q rest (a.put o.dst (.slice (some ⟨g,0,none⟩) n cap)) w'):wpList Tryz.prog ops Q (o::rest) a w:=by
 obtain⟨i0,hi,hz0,hz1,hz2⟩:=info_parts ry
 refine wpList_append_lies w hgd s x 23 ho B 3 i0 (.int .i64 0) 1 8 Tryz.underlying23 hi hz0 hz1 hz2 rfl (by decide) v js.length _ hs hown ad 1 1 [.int .i64 y] hx rfl ?_ ?_ (by decide) (by unfold maxLen;omega) (by omega) hbase _ rfl ?_
 ·intro j u hu
  cases j with
  |zero=>cases hu;obtain⟨b,o,m⟩:=ad;simpa[Addr.add] using hnews
  |succ j=>cases hu
 ·intro u hu;simp at hu;subst hu;rfl
 ·intro g cap w' h1 h2 h3 _
  have e:js.length+1=(js++[y]).length:=by rw[List.length_append];rfl
  rw[e] at h1 ⊢
  refine h g cap _ w' rfl ?_ (kV h2) h3
  rw[List.map_append]
  exact h1
structure Dx (w0 W:World)(P:Nat)(a:Option Addr)(n cap i:Nat)(bs:List Int)(u1 u2 u3:Value)(ins:List Int)(vs:List Vl)(outs:List Int):Prop where
 rd:RdF W P a n cap i bs
 dg:DG W (w0.heap.size+2) u1 u2 u3 ins vs outs
 bx:RB W (w0.heap.size+1) u1 u2 u3
 rs:RB W w0.heap.size jw jw jw
 p0:P<w0.heap.size
 k0:Kept P (P+1) w0 W
theorem Dx.step {W:World}(f:Dx w0 W P a n cap i bs u1 u2 u3 ins vs outs)(hR:RdF W' P a n cap i' bs)(k:Kept P (P+1) W W'):Dx w0 W' P a n cap i' bs u1 u2 u3 ins vs outs:=
 ⟨hR,f.dg.kept k (by have:=f.p0;omega),f.bx.kept k (by have:=f.p0;omega),f.rs.kept k (by have:=f.p0;omega),f.p0,f.k0.trans k⟩
theorem Dx.keep {W:World}(f:Dx w0 W P a n cap i bs u1 u2 u3 ins vs outs)(k:Kept 0 0 W W'):Dx w0 W' P a n cap i bs u1 u2 u3 ins vs outs:=f.step (f.rd.keep0 k) (iI k)
theorem Dx.next {W:World}(f:Dx w0 W P a n cap i bs u1 u2 u3 ins vs outs):
  Calls Tryz.prog 37 #[.pointer (some ⟨P,0,none⟩)] W λe W'=>e=.returned (.int .i64 (nv bs i:Int))/\Dx w0 W' P a n cap (ni bs i) bs u1 u2 u3 ins vs outs:=
 (lj W P a n cap i bs f.rd).mono λ_ _ q=>⟨q.1,f.step q.2.1 q.2.2.1⟩
theorem Dx.start (hR:RdF w0 P a n cap i bs):Dx w0 ((w0.alloc iw).alloc iw) P a n cap i bs jw jw jw [] [] []:=by
 have k1:=hU 0 0 w0 iw
 have k2:=hU 0 0 (w0.alloc iw) iw
 have hb:=i9 (w0.alloc iw)
 rw[show(w0.alloc iw).heap.size=w0.heap.size+1 by simp] at hb
 refine⟨hR.keep0 (k1.trans k2),⟨World.ownsRow_nil _ _ _ _,World.ownsRow_nil _ _ _ _,World.ownsRow_nil _ _ _ _,?_,?_,?_,?_,by simp⟩,hb,(i9 w0).keep k2,hR.lt,iI (k1.trans k2)⟩
 ·intro b h;cases h
 ·intro b h;cases h
 ·intro b h;cases h
 ·intro v h;cases h
theorem Dx.set {W:World}{W2:World}{v1 v2 v3:Value}(f:Dx w0 W P a n cap i bs u1 u2 u3 ins vs outs)(c:Chg S W W')(hS:∀b,S b->b=P\/w0.heap.size+2<=b)(hR:RdF W' P a n cap i' bs)(hd:DG W' (w0.heap.size+2) v1 v2 v3 ins' vs' outs')(k:Kept (w0.heap.size+1) (w0.heap.size+1+1) W' W2)(hb:RB W2 (w0.heap.size+1) v1 v2 v3):Dx w0 W2 P a n cap i' bs v1 v2 v3 ins' vs' outs':=by
 have hp:=f.p0
 have e:∀o,W'.cell? ⟨w0.heap.size,o,none⟩=W.cell? ⟨w0.heap.size,o,none⟩:=λo=>c.cell (p:=⟨w0.heap.size,o,none⟩) f.rs.sz (λq=>by have:=hS _ q;simp at this;omega)
 have ef:∀o,W'.frozen? ⟨w0.heap.size,o,none⟩=W.frozen? ⟨w0.heap.size,o,none⟩:=λo=>c.frozen (p:=⟨w0.heap.size,o,none⟩) f.rs.sz (λq=>by have:=hS _ q;simp at this;omega)
 have hr:RB W' w0.heap.size jw jw jw:=⟨Nat.lt_of_lt_of_le f.rs.sz c.size,by rw[e];exact f.rs.q0,by rw[e];exact f.rs.q1,by rw[e];exact f.rs.q2,by rw[ef];exact f.rs.f0,by rw[ef];exact f.rs.f1,by rw[ef];exact f.rs.f2⟩
 refine⟨hR.keep k (.inl (by omega)),hd.kept k (by omega),hb,hr.kept k (by omega),hp,⟨k.os.trans (c.os.trans f.k0.os),k.tape.trans (c.tape.trans f.k0.tape),k.output.trans (c.output.trans f.k0.output),Nat.le_trans f.k0.size (Nat.le_trans c.size k.size),λb hb hn=>?_⟩⟩
 have h1:=f.k0.size
 have h2:=c.size
 rw[k.block b (by omega) (by omega),c.block b (by omega) (λq=>by have:=hS b q;omega)]
 exact f.k0.block b hb hn
theorem jC {W:World}(t:RB W p b0 b1 b2)(c:Chg S W W')(hp:¬S p):RB W' p b0 b1 b2:=
 have e:∀o,W'.cell? ⟨p,o,none⟩=W.cell? ⟨p,o,none⟩:=λo=>c.cell (p:=⟨p,o,none⟩) t.sz hp
 have ef:∀o,W'.frozen? ⟨p,o,none⟩=W.frozen? ⟨p,o,none⟩:=λo=>c.frozen (p:=⟨p,o,none⟩) t.sz hp
 ⟨Nat.lt_of_lt_of_le t.sz c.size,by rw[e];exact t.q0,by rw[e];exact t.q1,by rw[e];exact t.q2,by rw[ef];exact t.f0,by rw[ef];exact t.f1,by rw[ef];exact t.f2⟩
theorem tj {W:World}(t:RB W p b0 b1 b2)(x y z:Value):RB (iM W p x y z) p x y z:=by
 obtain⟨y0,y1,y2⟩:=iy W p _ _ _ t.q0 t.q1 t.q2 x y z
 have k:=iD W p x y z
 refine⟨Nat.lt_of_lt_of_le t.sz k.size,y0,y1,y2,?_,?_,?_⟩
 ·unfold iM;simp[t.f0]
 ·unfold iM;simp[t.f1]
 ·unfold iM;simp[t.f2]
theorem lp {W:World}(t:RB W p b0 b1 b2)(x:Value):RB (W.setCell ⟨p,0,none⟩ x) p x b1 b2/\RB (W.setCell ⟨p,2,none⟩ x) p b0 b1 x:=by
 refine⟨⟨by simpa using t.sz,jI _ _ _ _ _ t.q0,by rw[iB _ _ _ _ _ _ (.inr (by omega))];exact t.q1,by rw[iB _ _ _ _ _ _ (.inr (by omega))];exact t.q2,by simp[t.f0],by simp[t.f1],by simp[t.f2]⟩,⟨by simpa using t.sz,by rw[iB _ _ _ _ _ _ (.inr (by omega))];exact t.q0,by rw[iB _ _ _ _ _ _ (.inr (by omega))];exact t.q1,jI _ _ _ _ _ t.q2,by simp[t.f0],by simp[t.f1],by simp[t.f2]⟩⟩
theorem DG.vals {W:World}(f:DG W B u1 u2 u3 ins vs outs)(c9:Chg (λb=>u2.ownBlock=some b) W W')(ho:W'.ownsRow B 31 6 (.slice (some ⟨g,0,none⟩) m c) m (iN vs'))(hm:m=vs'.length)(hg:u2.ownBlock=some g\/W.heap.size<=g)(hk:∀v∈vs',v.k<18446744073709551616):DG W' B u1 (.slice (some ⟨g,0,none⟩) m c) u3 ins vs' outs:=by
 subst hm
 refine⟨kK f.r1 c9 λb hb hc=>f.a12 b hb hc,ho,kK f.r3 c9 λb hb hc=>f.a23 b hc hb,?_,f.a13,?_,hk,Nat.le_trans f.sz c9.size⟩
 ·intro b hb hc
  have e:b=g:=by simpa[Value.ownBlock] using hc.symm
  subst e
  rcases hg with c|c
  ·exact f.a12 _ hb c
  ·have:=(ii f.r1 hb).2;omega
 ·intro b hb hc
  have e:b=g:=by simpa[Value.ownBlock] using hb.symm
  subst e
  rcases hg with c|c
  ·exact f.a23 _ c hc
  ·have:=(ii f.r3 hc).2;omega
theorem DG.ins_ {W:World}(f:DG W B u1 u2 u3 ins vs outs)(c9:Chg (λb=>u1.ownBlock=some b) W W')(ho:W'.ownsRow B 3 1 (.slice (some ⟨g,0,none⟩) m c) m (ins'.map (Value.int .i64)))(hm:m=ins'.length)(hg:u1.ownBlock=some g\/W.heap.size<=g):DG W' B (.slice (some ⟨g,0,none⟩) m c) u2 u3 ins' vs outs:=by
 subst hm
 refine⟨ho,kK f.r2 c9 λb hb hc=>f.a12 b hc hb,kK f.r3 c9 λb hb hc=>f.a13 b hc hb,?_,?_,f.a23,f.k,Nat.le_trans f.sz c9.size⟩
 ·intro b hb hc
  have e:b=g:=by simpa[Value.ownBlock] using hb.symm
  subst e
  rcases hg with c|c
  ·exact f.a12 _ c hc
  ·have:=(ii f.r2 hc).2;omega
 ·intro b hb hc
  have e:b=g:=by simpa[Value.ownBlock] using hb.symm
  subst e
  rcases hg with c|c
  ·exact f.a13 _ c hc
  ·have:=(ii f.r3 hc).2;omega
theorem DG.outs_ {W:World}(f:DG W B u1 u2 u3 ins vs outs)(c9:Chg (λb=>u3.ownBlock=some b) W W')(ho:W'.ownsRow B 3 1 (.slice (some ⟨g,0,none⟩) m c) m (outs'.map (Value.int .i64)))(hm:m=outs'.length)(hg:u3.ownBlock=some g\/W.heap.size<=g):DG W' B u1 u2 (.slice (some ⟨g,0,none⟩) m c) ins vs outs':=by
 subst hm
 refine⟨kK f.r1 c9 λb hb hc=>f.a13 b hb hc,kK f.r2 c9 λb hb hc=>f.a23 b hb hc,ho,f.a12,?_,?_,f.k,Nat.le_trans f.sz c9.size⟩
 ·intro b hb hc
  have e:b=g:=by simpa[Value.ownBlock] using hc.symm
  subst e
  rcases hg with c|c
  ·exact f.a13 _ hb c
  ·have:=(ii f.r1 hb).2;omega
 ·intro b hb hc
  have e:b=g:=by simpa[Value.ownBlock] using hc.symm
  subst e
  rcases hg with c|c
  ·exact f.a23 _ hb c
  ·have:=(ii f.r2 hb).2;omega
theorem Dx.put {W:World}{W1:World}(f:Dx w0 W P a n cap i bs (.slice a1 n1 c1) (.slice a2 vs.length c2) (.slice a3 n3 c3) ins vs outs)(k:Kept 0 0 W W1)(v:Vl)(hv:v.k<18446744073709551616)(hn:vs.length<=100000):
  Calls Tryz.prog 50 #[ip a1 n1 c1 a2 vs.length c2 a3 n3 c3,v.agg] W1 λe W9=>∃g' cap',e=.returned (ip a1 n1 c1 (some ⟨g',0,none⟩) (vs.length+1) cap' a3 n3 c3)/\RB W9 (w0.heap.size+1) (.slice a1 n1 c1) (.slice a2 vs.length c2) (.slice a3 n3 c3)/\Dx w0 (iM W9 (w0.heap.size+1) (.slice a1 n1 c1) (.slice (some ⟨g',0,none⟩) (vs.length+1) cap') (.slice a3 n3 c3)) P a n cap i bs (.slice a1 n1 c1) (.slice (some ⟨g',0,none⟩) (vs.length+1) cap') (.slice a3 n3 c3) ins (vs++[v]) outs:=by
 have f1:=f.keep k
 have hp:=f.p0
 refine(rF W1 a1 a2 a3 n1 c1 c2 n3 c3 (w0.heap.size+2) vs v f1.dg.r2 f1.dg.sz (by omega)).mono ?_
 rintro e W9 ⟨g',cap',rfl,hown,hs⟩
 have hB:∀b,(Value.slice a2 vs.length c2).ownBlock=some b->w0.heap.size+2<=b:=λb hb=>(ii f1.dg.r2 hb).1
 have c9:Chg (λb=>(Value.slice a2 vs.length c2).ownBlock=some b) W1 W9:=⟨hs.chg.os,hs.chg.tape,hs.chg.output,hs.chg.size,λb hb hn=>hs.chg.block b hb (by rintro (c|c);exact c;exact hn c)⟩
 have hg:(Value.slice a2 vs.length c2).ownBlock=some g'\/W1.heap.size<=g':=by
  rcases hs.row with c|⟨r,c,hr⟩
  ·exact .inl c.symm
  ·cases c;exact .inr hr
 have hk:∀u∈vs++[v],u.k<18446744073709551616:=λu hu=>by
  rcases List.mem_append.1 hu with c|c
  ·exact f.dg.k u c
  ·simp only[List.mem_singleton] at c;subst c;exact hv
 have hb:=jC f1.bx c9 (λc=>by have:=hB _ c;omega)
 exact⟨g',cap',rfl,hb,f1.set c9 (λb hb=>.inr (hB b hb)) (pp f1.rd c9 λb hb=>by have:=hB b hb;omega) (f1.dg.vals c9 hown (by simp) hg hk) (iD _ _ _ _ _) (tj hb _ _ _)⟩
theorem Dx.grow {W:World}(f:Dx w0 W P a n cap i bs (.slice a1 n1 c1) (.slice a2 vs.length c2) (.slice a3 n3 c3) ins vs outs)(hn:vs.length<=100000)(hL:∀k,k<vs.length->1<=(vd vs k).len/\(vd vs k).len<=1000):
  Calls Tryz.prog 108 #[ip a1 n1 c1 a2 vs.length c2 a3 n3 c3,.pointer (some ⟨P,0,none⟩)] W λe W9=>∃v g' cap',e=.returned (ip a1 n1 c1 (some ⟨g',0,none⟩) (vs.length+1) cap' a3 n3 c3)/\sv v=(gwM ins vs bs i).1/\RB W9 (w0.heap.size+1) (.slice a1 n1 c1) (.slice a2 vs.length c2) (.slice a3 n3 c3)/\Dx w0 (iM W9 (w0.heap.size+1) (.slice a1 n1 c1) (.slice (some ⟨g',0,none⟩) (vs.length+1) cap') (.slice a3 n3 c3)) P a n cap (gwM ins vs bs i).2 bs (.slice a1 n1 c1) (.slice (some ⟨g',0,none⟩) (vs.length+1) cap') (.slice a3 n3 c3) ins (vs++[v]) outs:=by
 have hp:=f.p0
 refine(Fc f.dg f.rd (by omega) hn hL).mono ?_
 rintro e W9 ⟨v,g',cap',rfl,hsv,hd,hr,hc,hg⟩
 have hB:∀b,(Value.slice a2 vs.length c2).ownBlock=some b->w0.heap.size+2<=b:=λb hb=>(ii f.dg.r2 hb).1
 have hb:=jC f.bx hc (by rintro (c|c);omega;have:=hB _ c;omega)
 exact⟨v,g',cap',rfl,hsv,hb,f.set hc (by rintro b (c|c);exact .inl c;exact .inr (hB b c)) hr hd (iD _ _ _ _ _) (tj hb _ _ _)⟩
theorem Dx.ins_ {W:World}{x:Int}(f:Dx w0 W P a n cap i bs u1 u2 u3 ins vs outs)(c9:Chg (λb=>u1.ownBlock=some b) W W')(ho:W'.ownsRow (w0.heap.size+2) 3 1 (.slice (some ⟨g,0,none⟩) m c) m ((ins++[x]).map (Value.int .i64)))(hm:m=(ins++[x]).length)(hg:u1.ownBlock=some g\/g=W.heap.size):Dx w0 (W'.setCell ⟨w0.heap.size+1,0,none⟩ (.slice (some ⟨g,0,none⟩) m c)) P a n cap i bs (.slice (some ⟨g,0,none⟩) m c) u2 u3 (ins++[x]) vs outs:=by
 have hp:=f.p0
 have hB:∀b,u1.ownBlock=some b->w0.heap.size+2<=b:=λb hb=>(ii f.dg.r1 hb).1
 have hb:=jC f.bx c9 (λc=>by have:=hB _ c;omega)
 exact f.set c9 (λb hb=>.inr (hB b hb)) (pp f.rd c9 λb hb=>by have:=hB b hb;omega) (f.dg.ins_ c9 ho hm (hg.imp id λe=>Nat.le_of_eq e.symm)) (it W' ⟨_,0,none⟩ _ (.inl ⟨Nat.le_refl _,Nat.lt_succ_self _⟩)) (lp hb _).1
theorem Dx.outs_ {W:World}{x:Int}(f:Dx w0 W P a n cap i bs u1 u2 u3 ins vs outs)(c9:Chg (λb=>u3.ownBlock=some b) W W')(ho:W'.ownsRow (w0.heap.size+2) 3 1 (.slice (some ⟨g,0,none⟩) m c) m ((outs++[x]).map (Value.int .i64)))(hm:m=(outs++[x]).length)(hg:u3.ownBlock=some g\/g=W.heap.size):Dx w0 (W'.setCell ⟨w0.heap.size+1,2,none⟩ (.slice (some ⟨g,0,none⟩) m c)) P a n cap i bs u1 u2 (.slice (some ⟨g,0,none⟩) m c) ins vs (outs++[x]):=by
 have hp:=f.p0
 have hB:∀b,u3.ownBlock=some b->w0.heap.size+2<=b:=λb hb=>(ii f.dg.r3 hb).1
 have hb:=jC f.bx c9 (λc=>by have:=hB _ c;omega)
 exact f.set c9 (λb hb=>.inr (hB b hb)) (pp f.rd c9 λb hb=>by have:=hB b hb;omega) (f.dg.outs_ c9 ho hm (hg.imp id λe=>Nat.le_of_eq e.symm)) (it W' ⟨_,2,none⟩ _ (.inl ⟨Nat.le_refl _,Nat.lt_succ_self _⟩)) (lp hb _).2
def kr (xs:List Int)(i:Nat):Nat:=if xs.length=0 then 0 else (xs.getD (i%xs.length) 0).toNat
theorem nh {xs:List Int}(h:YS w a n xs)(i:Nat):kr xs i<256:=by
 unfold kr
 split
 ·omega
 ·rename_i h0
  have hm:i%xs.length<xs.length:=Nat.mod_lt _ (by omega)
  rw[List.getD_eq_getElem?_getD,List.getElem?_eq_getElem hm]
  have:=h.lt _ (List.getElem_mem hm)
  show(xs[i%xs.length]).toNat<256
  omega
theorem Cb {xs:List Int}(h:YS w a n xs)(hn:n<=1048576)(i:Nat):
  Calls Tryz.prog 19 #[.slice a n cap,.int .i64 (i:Int)] w λe w'=>e=.returned (.int .i64 (kr xs i:Int))/\w'=w:=by
 have hl:=h.len
 by_cases h0:n=0
 ·have HR:Hid ((kr xs i:Int)=0):=by show _=_;unfold kr;rw[if_pos (by omega)];rfl
  have h0':(n:Int)<=0:=by omega
  clear h hl h0
  go_enter Tryz.func19,Tryz.ntmps19
  go_wp2
  go_ret
  exact⟨by rw[HR.out];rfl,rfl⟩
 ·have hm:i%n<n:=Nat.mod_lt _ (by omega)
  obtain⟨g,off,rfl,hc⟩:∃g off,a=some ⟨g,off,none⟩/\w.cell? ⟨g,off+i%n,none⟩=some (.int .u8 (xs.getD (i%n) 0)):=by
   rcases h.at_ with q|⟨g,off,e,h3,h4⟩
   ·exact absurd q h0
   ·exact⟨g,off,e,h4 _ hm⟩
  have hb:0<=xs.getD (i%n) 0/\xs.getD (i%n) 0<256:=by
   rw[List.getD_eq_getElem?_getD,List.getElem?_eq_getElem (by omega)]
   exact h.lt _ (List.getElem_mem _)
  have HR:Hid ((kr xs i:Int)=xs.getD (i%n) 0):=by show _=_;unfold kr;rw[if_neg (by omega),hl];omega
  have ht1:(i:Int).tmod (n:Int)=((i%n:Nat):Int):=rfl
  have ht2:(i:Int)%(n:Int)=((i%n:Nat):Int):=by rw[Int.natCast_emod]
  obtain⟨hb0,hb1⟩:=hb
  generalize xs.getD (i%n) 0=x at hc hb0 hb1 HR
  generalize i%n=j at hm hc ht1 ht2
  clear h hl
  go_enter Tryz.func19,Tryz.ntmps19
  go_wp2
  go_ret
  exact⟨by rw[HR.out];rfl,rfl⟩
theorem lS (h2:w.ownsRow B 31 6 (.slice a2 n2 c2) n2 (iN vs))(hl:vs.length=n2)(hn:n2<=2000)(hL:∀k,k<n2->1<=(vs.getD k Vl.zero).len/\(vs.getD k Vl.zero).len<=1000):
  Calls Tryz.prog 17 #[ip a1 n1 c1 a2 n2 c2 a3 n3 c3] w λe w'=>e=.returned (.int .i64 (ig vs))/\Kept 0 0 w w':=by
 have k0:=hU 0 0 w (iv a1 n1 c1 a2 n2 c2 a3 n3 c3)
 have HO:Hid _:=iC h2 k0
 have q1:(w.alloc (iv a1 n1 c1 a2 n2 c2 a3 n3 c3)).cell? ⟨w.heap.size,1,none⟩=some (.slice a2 n2 c2):=by
  obtain⟨_,_,z1,_⟩:=iO w (.slice a1 n1 c1) (.slice a2 n2 c2) (.slice a3 n3 c3)
  exact z1
 have HK:Hid _:=k0
 have HL:Hid _:=hL
 have HLe:Hid (vs.length=n2):=hl
 clear h2 k0 hL hl
 go_enter Tryz.func17,Tryz.ntmps17
 go_wp2_with fail
 generalize w.alloc (iv a1 n1 c1 a2 n2 c2 a3 n3 c3)=W at HO q1 HK ⊢
 go_loopw [3,4] (λt3 t4 W'=>∃k:Nat,k<=n2/\t3=.int .i64 (ig (vs.take k))/\t4=.int .i64 (k:Int)/\Hid (0<=ig (vs.take k)/\ig (vs.take k)<=1000*k)/\W'=W) (λ_ t4 _=>n2-(intOf t4).toNat)
 case atStart=>exact⟨0,Nat.zero_le _,rfl,rfl,by show 0<=ig []/\_;simp[ig],rfl⟩
 case round=>
  obtain⟨k,hk,rfl,rfl,hb,rfl⟩:=hrel
  by_cases hlt:k<n2
  ·obtain⟨g,cp,eu,_,hg2,hat⟩:=iY HO.out HLe.out hlt
   cases eu
   have y1:=hat.c1
   have hv:=HL.out k hlt
   have HT:Hid (ig (vs.take (k+1))=ig (vs.take k)+(vs.getD k Vl.zero).len):=mc (by rw[HLe.out];exact hlt)
   have hb':=hb.out
   generalize (vs.getD k Vl.zero).len=z at y1 hv HT
   generalize ig (vs.take k)=y at hb hb' HT ⊢
   obtain⟨hb1,hb2⟩:=hb'
   obtain⟨hv1,hv2⟩:=hv
   clear hat hb
   go_wp2
   go_roundw
   case rel=>exact⟨k+1,by omega,by rw[HT.out],by go_num,by show _/\_;rw[HT.out];omega,trivial⟩
   case measure=>simp[intOf];omega
  ·have e:k=n2:=by omega
   have HT:Hid (vs.take k=vs):=List.take_of_length_le (by rw[HLe.out];omega)
   clear e
   go_wp2
   go_ret
   refine⟨?_,HK.out⟩
   rw[congrArg ig HT.out];rfl
theorem DJ (h2:w.ownsRow B 31 6 (.slice a2 n2 c2) n2 (iN vs))(hl:vs.length=n2)(hn:n2<=2000){s x:Nat}(hs:s<n2)(hx:x<n2):
  Calls Tryz.prog 8 #[ip a1 n1 c1 a2 n2 c2 a3 n3 c3,.int .i64 (s:Int),.int .i64 (x:Int)] w λe w'=>∃b,e=.returned (.bool b)/\Kept 0 0 w w':=by
 have k0:=hU 0 0 w (iv a1 n1 c1 a2 n2 c2 a3 n3 c3)
 have HO:Hid _:=iC h2 k0
 have q1:(w.alloc (iv a1 n1 c1 a2 n2 c2 a3 n3 c3)).cell? ⟨w.heap.size,1,none⟩=some (.slice a2 n2 c2):=by
  obtain⟨_,_,z1,_⟩:=iO w (.slice a1 n1 c1) (.slice a2 n2 c2) (.slice a3 n3 c3)
  exact z1
 have HK:Hid _:=k0
 have HLe:Hid (vs.length=n2):=hl
 clear h2 k0 hl
 go_enter Tryz.func8,Tryz.ntmps8
 go_wp2_with fail
 generalize w.alloc (iv a1 n1 c1 a2 n2 c2 a3 n3 c3)=W at HO q1 HK ⊢
 go_loopw [7] (λt7 W'=>∃k:Nat,k<=n2/\t7=.int .i64 (k:Int)/\W'=W) (λt7 _=>n2-(intOf t7).toNat)
 case atStart=>exact⟨x+1,by omega,by go_num,rfl⟩
 case round=>
  obtain⟨k,hk,rfl,rfl⟩:=hrel
  by_cases hlt:k<=s
  ·obtain⟨g,cp,eu,_,hg2,hat⟩:=iY HO.out HLe.out (k:=k) (by omega)
   cases eu
   have y0:=hat.c0
   generalize (vs.getD k Vl.zero).op=z at y0
   clear hat
   by_cases z5:z=5
   ·subst z5
    go_wp2
    go_ret
    exact⟨_,rfl,HK.out⟩
   by_cases z7:z=7
   ·subst z7
    go_wp2
    go_ret
    exact⟨_,rfl,HK.out⟩
   by_cases z8:z=8
   ·subst z8
    go_wp2
    go_ret
    exact⟨_,rfl,HK.out⟩
   by_cases z13:z=13
   ·subst z13
    go_wp2
    go_ret
    exact⟨_,rfl,HK.out⟩
   go_wp2
   ·rename_i hq
    simp[z5,z7,z8,z13] at hq
   ·go_roundw
    case rel=>exact⟨k+1,by omega,by go_num,trivial⟩
    case measure=>simp[intOf];omega
  ·go_wp2
   go_ret
   exact⟨_,rfl,HK.out⟩
theorem xl {p:Nat->Bool}(hk:k<xs.length)(h:(xs.take k).all p=true)(t:p (xs.getD k 0)=true):(xs.take (k+1)).all p=true:=by
 rw[List.take_succ_eq_append_getElem hk,List.all_append,h]
 rw[List.getD_eq_getElem?_getD,List.getElem?_eq_getElem hk] at t
 simpa using t
theorem y8 {p:Nat->Bool}(hk:k<xs.length)(t:p (xs.getD k 0)=false):xs.all p=false:=by
 rw[List.getD_eq_getElem?_getD,List.getElem?_eq_getElem hk] at t
 rw[List.all_eq_false]
 exact⟨xs[k],List.getElem_mem _,by simpa using t⟩
theorem vq {hi:Nat}(f:FS w lo hi a n xs)(hn:n<=100000)(m:Nat):
  Calls Tryz.prog 23 #[.slice a n cap,.float .f64 m] w λe w'=>e=.returned (.bool (xs.all (okW m)))/\Kept 0 0 w w':=by
 have f3:=oJ
 have HF:Hid _:=f
 have HL:Hid (xs.length=n):=f.len
 clear f
 go_enter Tryz.func23,Tryz.ntmps23
 go_wp2_with fail
 go_loopw [5] (λi W=>∃k:Nat,k<=n/\i=.int .i64 k/\Hid ((xs.take k).all (okW m)=true)/\Drawn w W) (λi _=>n-(intOf i).toNat)
 case atStart=>exact⟨0,Nat.zero_le _,rfl,rfl,Drawn.refl _⟩
 case round=>
  obtain⟨k,hk,rfl,hA,hD⟩:=hrel
  have HD:Hid _:=hD
  by_cases hlt:k<n
  ·rcases HF.out.at_ with z0|⟨g,off,ea,z1,z2,z3,z4⟩
   ·omega
   have c:=(hD.cell _).trans (z4 k hlt)
   subst ea
   have j0:(0:Int)<=(k:Int):=by omega
   have j1:(k:Int)<(n:Int):=by omega
   clear z1 z2 z3 z4 hD
   cases hx:okW m (xs.getD k 0)
   ·have R:Hid (xs.all (okW m)=false):=y8 (by rw[HL.out];exact hlt) hx
    generalize xs.getD k 0=y at c hx
    unfold okW at hx
    cases t1:(f64.order y y !=some .eq)
    ·cases t2:(f64.order y m==some .gt)
     ·have t3:(f64.order y (Op.negFloat .f64 m)==some .lt)=true:=by
       rw[t1,t2] at hx
       simpa using hx
      clear hx hA
      go_wp2_with fail
      go_quiet (fail)
      go_wp2
      go_ret
      exact⟨by rw[R.out];rfl,(Drawn.kept HD.out 0 0).trans (iq 0 0 _ _)⟩
     ·clear hx hA
      go_wp2_with fail
      go_quiet (fail)
      go_wp2
      go_ret
      exact⟨by rw[R.out];rfl,(Drawn.kept HD.out 0 0).trans (iq 0 0 _ _)⟩
    ·clear hx hA
     go_wp2_with fail
     go_quiet (fail)
     go_wp2
     go_ret
     exact⟨by rw[R.out];rfl,(Drawn.kept HD.out 0 0).trans (iq 0 0 _ _)⟩
   ·have R:Hid _:=xl (p:=okW m) (by rw[HL.out];exact hlt) hA.out hx
    generalize xs.getD k 0=y at c hx
    unfold okW at hx
    simp only[Bool.and_eq_true,Bool.not_eq_true'] at hx
    obtain⟨t1,t2,t3⟩:=hx
    clear hA
    go_wp2_with fail
    go_quiet (fail)
    go_wp2
    go_roundw
    case rel=>exact⟨k+1,by omega,by go_num,R,Drawn.more HD.out _⟩
    case measure=>simp[intOf];omega
  ·have R:Hid (xs.all (okW m)=true):=by
    have:=hA.out
    rw[List.take_of_length_le (by rw[HL.out];omega)] at this
    exact this
   clear hA
   go_wp2
   go_ret
   exact⟨by rw[R.out];rfl,Drawn.kept HD.out 0 0⟩
def inV (ys:List Int)(p:Nat):Nat:=floatOfInt .f64 ((kr ys p:Int)%7-3)
def lf (ys:List Int)(q n:Nat):List Nat:=(List.range n).map λk=>inV ys (q+k)
def uy (ins:List Int):Nat->Nat
 |0=>0
 |j+1=>uy ins j+(ins.getD j 0).toNat
def inM (ys ins:List Int):List (List Nat):=(List.range ins.length).map λj=>lf ys (uy ins j) (ins.getD j 0).toNat
theorem mG (ys:List Int)(q n:Nat):(lf ys q n).length=n:=by simp[lf]
theorem xm (ys:List Int)(q:Nat)(h:k<n):(lf ys q n).getD k 0=inV ys (q+k):=by
 simp[lf,List.getD_eq_getElem?_getD,h]
theorem vr (ys:List Int)(q n:Nat):lf ys q (n+1)=lf ys q n++[inV ys (q+n)]:=by
 unfold lf
 rw[List.range_succ,List.map_append]
 rfl
theorem pQ (ys:List Int)(h:j<ins.length):(inM ys ins).getD j []=lf ys (uy ins j) (ins.getD j 0).toNat:=by
 unfold inM
 exact l9 (λj=>lf ys (uy ins j) (ins.getD j 0).toNat) h
theorem tl (ys ins:List Int):(inM ys ins).length=ins.length:=by simp[inM]
theorem DK (h:∀p,kr ys p<256)(p:Nat):∃z:Int,FZ (inV ys p) z/\-3<=z/\z<=3:=by
 have:=h p
 exact⟨_,lk _ (by omega),by omega,by omega⟩
theorem qG (h:∀p,kr ys p<256)(j k:Nat)(hk:k<((inM ys ins).getD j []).length):∃z:Int,FZ (((inM ys ins).getD j []).getD k 0) z/\-3<=z/\z<=3:=by
 by_cases hj:j<ins.length
 ·rw[pQ ys hj] at hk ⊢
  rw[mG] at hk
  rw[xm ys _ hk]
  exact DK h _
 ·rw[List.getD_eq_getElem?_getD,List.getElem?_eq_none (by rw[tl];omega)] at hk
  exact absurd hk (Nat.not_lt_zero _)
theorem lJ (h:∀p,kr ys p<256):mF (inM ys ins):=λj x hx=>by
 obtain⟨k,hk,e⟩:=List.getElem_of_mem hx
 obtain⟨z,hz,_⟩:=qG (ins:=ins) h j k hk
 rw[List.getD_eq_getElem?_getD,List.getElem?_eq_getElem hk] at hz
 have:=yr hz
 rw[<-e]
 exact this
theorem Bp (h:∀j,j<ins.length->1<=ins.getD j 0):inB ins (inM ys ins)=true:=by
 unfold inB
 rw[tl,decide_eq_true rfl,Bool.true_and,List.all_eq_true]
 intro j hj
 have hj:=List.mem_range.1 hj
 rw[pQ ys hj,mG]
 have:=h j hj
 simp only[beq_iff_eq]
 omega
theorem pR (h:same zs xs)(hx:∀k,k<xs.length->∃z,FZ (xs.getD k 0) z):zs=xs:=by
 refine List.ext_getElem (jY h) λk h1 h2=>?_
 have e:=jk h k
 rw[List.getD_eq_getElem?_getD,List.getD_eq_getElem?_getD,List.getElem?_eq_getElem h1,List.getElem?_eq_getElem h2] at e
 obtain⟨z,hz⟩:=hx k h2
 rw[List.getD_eq_getElem?_getD,List.getElem?_eq_getElem h2] at hz
 rcases lP e with c|⟨_,c⟩
 ·exact c
 ·have:=vg hz
  simp only[Option.getD_some] at this c
  rw[this] at c
  cases c
theorem v9 {hi':Nat}{ca nm cm:Nat}(f:IS w lo hi' a n ins)(hy:YS w b nm ys)(hm:nm<=1048576)(hn:n<=21)(hl:∀j,j<n->1<=ins.getD j 0/\ins.getD j 0<=1000):
  Calls Tryz.prog 5 #[.slice a n ca,.slice b nm cm,.bool false] w λe w'=>∃a' cap,e=.returned (.slice a' n cap)/\SS w' a' n (inM ys ins)/\Kept 0 0 w w':=by
 obtain⟨i0,hi,hz0,hz1,hz2⟩:=info_parts ui
 obtain⟨i1,ji,jz0,jz1,jz2⟩:=info_parts lq
 have HF:Hid _:=f
 have HY:Hid _:=hy
 have HL:Hid _:=hl
 have HN:Hid (ins.length=n):=f.len
 clear f hy hl
 go_enter Tryz.func5,Tryz.ntmps5
 go_wp2_with fail
 go_loopw [8,9,10] (λu p i W=>∃k q:Nat,k<=n/\q<=1000*k/\i=.int .i64 (k:Int)/\p=.int .i64 (q:Int)/\Hid (q=uy ins k)/\Hid (AR W w.heap.size u k (inM ys ins))/\Hid (Kept 0 0 w W)) (λ_ _ i _=>n-(intOf i).toNat)
 case atStart=>exact⟨0,0,Nat.zero_le _,Nat.zero_le _,rfl,rfl,rfl,AR.nil _ _ _,Kept.refl _ _ _⟩
 case round=>
  obtain⟨W1,hW1⟩:∃W1,W1=wr:=⟨_,rfl⟩
  subst hW1
  obtain⟨k,q,hk,hq,rfl,rfl,hqe,hA,hK⟩:=hrel
  by_cases hlt:k<n
  ·rcases (HF.out.keep hK.out (.inr (.inr (Nat.le_refl _)))).at_ with z0|⟨g,off,ea,z1,z2,z3,z4⟩
   ·omega
   cases ea
   have hlk:=HL.out k hlt
   obtain⟨m,hme⟩:∃m:Nat,ins.getD k 0=(m:Int):=⟨(ins.getD k 0).toNat,by omega⟩
   have HIN:Hid ((inM ys ins).getD k []=lf ys q m):=by
    show _=_
    rw[pQ ys (by rw[HN.out];exact hlt),hme,hqe.out]
    rfl
   have HOF:Hid (uy ins (k+1)=q+m):=by show uy ins k+_=_;rw[hme,hqe.out];rfl
   have HZ4:Hid (W1.cell? ⟨g,off+k,none⟩=some (.int .i64 (m:Int))/\g<W1.heap.size):=⟨by rw[<-hme];exact z4 k hlt,z3⟩
   rw[hme] at hlk
   have hm1:m<=1000:=by omega
   have HM1:Hid (1<=m):=by show 1<=m;omega
   obtain⟨us,hown,hus⟩:=hA.out
   have HOWN:Hid _:=hown
   have HUS:Hid _:=hus
   clear z1 z2 z3 z4 hlk hme hown hus hA
   have hc0:=HZ4.out.1
   go_wp2_with fail
   clear hc0
   go_loopw [9,11,12] (λp v j W=>∃kk:Nat,kk<=m/\p=.int .i64 ((q:Int)+(kk:Int))/\j=.int .i64 (kk:Int)/\Hid (W.ownsRow W1.heap.size 29 1 v kk ((lf ys q kk).map (Value.float .f64)))/\Hid (Kept 0 0 W1 W)) (λ_ _ j _=>m-(intOf j).toNat)
   case atStart=>exact⟨0,Nat.zero_le _,by simp,rfl,World.ownsRow_nil _ _ _ _,Kept.refl _ _ _⟩
   case round=>
    obtain⟨kk,hkk,rfl,rfl,hO,hK2⟩:=hrel
    have hc1:=hK2.out.cell (p:=⟨g,off+k,none⟩) HZ4.out.2 (by show ¬(0<=g/\g<0);omega)
    rw[HZ4.out.1] at hc1
    by_cases hl2:kk<m
    ·have HT:Hid (Calls Tryz.prog 19 #[.slice b nm cm,.int .i64 ((q:Int)+(kk:Int))] wr λe w'=>e=.returned (.int .i64 (kr ys (q+kk):Int))/\wr=w'):=(Cb (cap:=cm) (HY.out.keep (hK.out.trans hK2.out)) hm (q+kk)).mono λ_ _ h=>⟨h.1,h.2.symm⟩
     have htk:=nh HY.out (q+kk)
     have HS:Hid (lf ys q (kk+1)=lf ys q kk++[floatOfInt .f64 ((kr ys (q+kk):Int)%7-3)]):=vr ys q kk
     have HLr:Hid _:=mG ys q kk
     generalize kr ys (q+kk)=t at HT htk HS
     have hown:=hO.out
     generalize lf ys q kk=rs at hown HS HLr
     have HOW:Hid _:=hown
     have hsz:W1.heap.size<=wr.heap.size:=hK2.out.size
     clear hO
     go_wp2_with (first
      |(go_at_call 19;refine Calls.mono HT.out ?_;rintro _ _ ⟨rfl,rfl⟩)
      |(at_builtin;refine wpList_append_lies _ rfl _ _ 36 rfl W1.heap.size 29 i1 (.float .f64 0) 1 8 Tryz.underlying36 ji jz0 jz1 jz2 rfl (by decide) _ _ (rs.map (Value.float .f64)) rfl (hown.alloc _) ⟨wr.heap.size,0,none⟩ 1 1 [.float .f64 (floatOfInt .f64 ((t:Int)%7-3))] rfl rfl ?c1 ?c2 (by decide) ?c3 ?c4 ?c5 _ rfl ?_))
     case c1=>exact cell_one_new _ _ _
     case c2=>intro u hu;simp at hu;subst hu;rfl
     case c3=>unfold maxLen;omega
     case c4=>omega
     case c5=>simp;omega
     intro g9 cap9 w9 hown9 hg9 hat9 _
     have R1:Hid (w9.ownsRow W1.heap.size 29 1 (.slice (some ⟨g9,0,none⟩) (kk+1) cap9) (kk+1) ((lf ys q (kk+1)).map (Value.float .f64))):=by
      show w9.ownsRow _ _ _ _ _ _
      rw[HS.out,List.map_append]
      exact hown9
     have R2:Hid _:=jS (base:=W1.heap.size) hg9 (λi hi=>(jW hown hi).1) (hK2.out.trans (hU 0 0 wr _)) (Nat.le_refl _)
     clear hown9 hg9 hat9 hown HOW HT hK2
     go_wp2
     go_roundw
     case rel=>exact⟨kk+1,by omega,by go_num,by go_num,R1,R2⟩
     case measure=>simp[intOf];omega
    ·obtain rfl:kk=m:=by omega
     have hown:=hO.out
     obtain⟨G,cap,rfl,b1,b2,b3⟩:=FO.of_own hown (by have:=HM1.out;omega) (mG ys q kk) (λx hx=>by
      have:=lJ (ins:=ins) (λp=>nh HY.out p) k x (by rw[HIN.out];exact hx)
      exact this)
     have hown2:=lw HOWN.out hK2.out
     have hsz:w.heap.size<=wr.heap.size:=(hK.out.trans hK2.out).size
     have HFO:Hid _:=b3
     clear hO hown
     go_wp2_with (first|(at_builtin;refine wpList_append_lies _ rfl _ _ 32 rfl w.heap.size 36 i0 (.slice none 0 0) 1 24 Tryz.underlying32 hi hz0 hz1 hz2 rfl (by decide) _ _ us rfl (hown2.alloc _) ⟨wr.heap.size,0,none⟩ 1 1 [.slice (some ⟨G,0,none⟩) kk cap] rfl rfl ?c1 ?c2 (by decide) ?c3 ?c4 ?c5 _ rfl ?_))
     case c1=>exact cell_one_new _ _ _
     case c2=>intro u hu;simp at hu;subst hu;rfl
     case c3=>unfold maxLen;omega
     case c4=>omega
     case c5=>simp;omega
     intro g9 cap9 w9 hown9 hg9 hat9 _
     have R1:Hid (AR w9 w.heap.size (.slice (some ⟨g9,0,none⟩) (k+1) cap9) (k+1) (inM ys ins)):=
      AR.step (W:=wr) (Vs:=inM ys ins) hown2 (nT HUS.out hK2.out) (x:=lf ys q kk) ⟨_,_,_,_,rfl,b2,HFO.out.fs,rfl⟩ (λ_ p hp c=>by
       cases hp
       have:=(jW HOWN.out (k:=G) c).2
       omega) hown9 hg9 (by rcases hat9 with h|h;exact .inl h;exact .inr (by rw[h];simp)) (λj hj=>rfl) HIN.out
     have R2:Hid _:=jS (base:=w.heap.size) hg9 (λi hi=>(jW hown2 hi).1) ((hK.out.trans hK2.out).trans (hU 0 0 wr _)) (Nat.le_refl _)
     clear hown9 hg9 hat9 hown2 hK2 HUS HOWN hK b1 b2 b3 HFO
     go_wp2
     go_roundw
     case rel=>exact⟨k+1,q+kk,by omega,by omega,by go_num,by go_num,HOF.out.symm,R1,R2⟩
     case measure=>simp[intOf];omega
  ·obtain rfl:k=n:=by omega
   obtain⟨a',cap,zss,rfl,hss,hsm⟩:=hA.out.ss
   have e:zss=inM ys ins:=by
    refine List.ext_getElem (by rw[hss.len,tl,HN.out]) λj h1 h2=>?_
    have hj:j<k:=by rw[<-hss.len];exact h1
    have:=pR (hsm j hj) λq hq=>by obtain⟨z,hz,_⟩:=qG (ins:=ins) (λp=>nh HY.out p) j q hq;exact⟨z,hz⟩
    rw[List.getD_eq_getElem?_getD,List.getD_eq_getElem?_getD,List.getElem?_eq_getElem h1,List.getElem?_eq_getElem h2] at this
    exact this
   rw[e] at hss
   have R:Hid _:=hss
   clear hss hsm hA e
   go_wp2
   go_ret
   exact⟨a',cap,rfl,R.out,hK.out⟩
abbrev m12:Nat:=4786511204640096256
abbrev m6:Nat:=4696837146684686336
theorem rN {a b:Nat}(h:fb a=fb b):okW m a=okW m b:=by
 unfold okW
 rw[jV h h,jV (y:=m) (y':=m) h rfl,jV (y:=Op.negFloat .f64 m) (y':=Op.negFloat .f64 m) h rfl]
theorem vu {p:Nat->Bool}(h:xs.all p=true)(hk:k<xs.length):p (xs.getD k 0)=true:=by
 rw[List.getD_eq_getElem?_getD,List.getElem?_eq_getElem hk]
 exact List.all_eq_true.1 h _ (List.getElem_mem hk)
def SmO (m:Nat)(ins:List Int)(vs:List Vl)(xss:List (List Nat))(n2 i:Nat):Prop:=
 okG ins vs [(i:Int)]=true/\inB ins xss=true/\∀k,k<((io xss vs n2).getD i []).length->okW m (((io xss vs n2).getD i []).getD k 0)=true
def wnd (fr q:Nat):List Int:=(List.range q).map λj=>((fr+j:Nat):Int)
theorem pS (fr q:Nat):(wnd fr q).length=q:=by simp[wnd]
theorem y9 (fr q:Nat):wnd fr (q+1)=wnd fr q++[(fr:Int)+(q:Int)]:=by unfold wnd;rw[List.range_succ,List.map_append];rfl
theorem Bq (fr:Nat)(h:j<q):(wnd fr q).getD j 0=((fr+j:Nat):Int):=by simp[wnd,List.getD_eq_getElem?_getD,h]
theorem Br (h:okG ins vs outs=true)(hi:i<vs.length):okG ins vs [(i:Int)]=true:=by
 unfold okG at h ⊢
 simp only[Bool.and_eq_true] at h ⊢
 obtain⟨h1,h2,h3,_,h5⟩:=h
 have:=of_decide_eq_true h1
 exact⟨decide_eq_true ⟨this.1,this.2.1,by simp⟩,h2,h3,List.all_eq_true.2 λo ho=>by rw[List.mem_singleton.1 ho];exact decide_eq_true ⟨by omega,by omega⟩,h5⟩
theorem Fd {zss:List (List Nat)}(hl:vs.length=n2)(h1:okG ins vs (wnd fr q)=true)(h2:inB ins xss=true)(hs:∀j,j<q->same (zss.getD j []) ((io xss vs n2).getD ((wnd fr q).getD j 0).toNat []))(ha:∀j,j<q->(zss.getD j []).all (okW m)=true)(hi:i<n2)(hf:fr<=i)(hq:i<fr+q):SmO m ins vs xss n2 i:=by
 refine⟨Br h1 (by omega),h2,λk hk=>?_⟩
 have e:(wnd fr q).getD (i-fr) 0=((i:Nat):Int):=by rw[Bq fr (by omega)];congr 1;omega
 have hsj:=hs (i-fr) (by omega)
 rw[e,Int.toNat_natCast] at hsj
 have hlen:=jY hsj
 rw[<-rN (jk hsj k)]
 exact vu (ha (i-fr) (by omega)) (by omega)
theorem DL (hl:vs.length=n2)(h1:okG ins vs (wnd fr q)=true)(h2:inB ins xss=true)(hj:j<q)(hs:same zs ((io xss vs n2).getD ((wnd fr q).getD j 0).toNat [])):zs.length<=100000:=by
 unfold okG at h1
 simp only[Bool.and_eq_true] at h1
 obtain⟨_,_,hv,ho,_⟩:=h1
 have hx:=of_decide_eq_true (List.all_eq_true.1 ho ((wnd fr q).getD j 0) (ng (by rw[pS];exact hj)))
 rw[hl] at hv hx
 have s1:=jY hs
 have s2:=jU h2 n2 hv ((wnd fr q).getD j 0).toNat (by omega)
 have s3:=ja (List.all_eq_true.1 hv ((wnd fr q).getD j 0).toNat (List.mem_range.2 (by omega)))
 omega
theorem zd {cb:Nat}(f:GS w a1 n1 a2 n2 a3 n3 ins vs outs)(s:SS w b m xss)(hw:mF xss)(hn:n1<=1048576)(h2:n2<=2000):
  Calls Tryz.prog 11 #[ip a1 n1 c1 a2 n2 c2 a3 n3 c3,.slice b m cb] w λe w'=>∃r,e=.returned (.bool r)/\Kept 0 0 w w'/\(r=true->∀i,i<n2->SmO m12 ins vs xss n2 i):=by
 have k0:=hU 0 0 w (iv a1 n1 c1 a2 n2 c2 a3 n3 c3)
 have hb:=kj (S:=λ_=>False) w _ #[.slice a1 n1 c1,.slice a2 n2 c2,.slice a3 n3 c3] 26 (Kept.refl 0 0 _).chg (λc=>c)
 have HB:Hid (RB (w.alloc (iv a1 n1 c1 a2 n2 c2 a3 n3 c3)) w.heap.size (.slice a1 n1 c1) (.slice a2 n2 c2) (.slice a3 n3 c3)):=⟨hb.2.2,hb.1 0,hb.1 1,hb.1 2,hb.2.1 0,hb.2.1 1,hb.2.1 2⟩
 have HK:Hid _:=k0
 have HF:Hid _:=f
 have HS:Hid _:=s
 have HW:Hid _:=hw
 have HL:Hid (vs.length=n2):=f.v.len
 clear k0 hb f s hw
 obtain⟨_,q0,q1,q2,_,_,_⟩:=HB.out
 go_enter Tryz.func11,Tryz.ntmps11
 go_wp2_with fail
 generalize w.alloc (iv a1 n1 c1 a2 n2 c2 a3 n3 c3)=W0 at HB HK q0 q1 q2 ⊢
 clear q0 q1 q2
 go_loopw [6] (λt W=>∃fr:Nat,fr<=n2+50/\t=.int .i64 (fr:Int)/\Hid (∃u3,RB W w.heap.size (.slice a1 n1 c1) (.slice a2 n2 c2) u3)/\Hid (Kept 0 0 w W)/\Hid (∀i,i<fr->i<n2->SmO m12 ins vs xss n2 i)) (λt _=>n2+50-(intOf t).toNat)
 case atStart=>exact⟨0,Nat.zero_le _,rfl,⟨_,HB.out⟩,HK,λi h=>absurd h (Nat.not_lt_zero _)⟩
 case round=>
  obtain⟨fr,hfr,rfl,hB,hK,hM⟩:=hrel
  clear HB HK
  obtain⟨u3,hB⟩:=hB.out
  by_cases hlt:fr<n2
  ·have R1:Hid _:=(lp hB jw).2
   have R2:Hid _:=kT w wr hK.out w.heap.size 2 jw (Nat.le_refl _)
   obtain⟨_,q0,q1,q2,_,_,qf2⟩:=hB
   go_wp2_with fail
   clear q0 q1 q2 qf2 hK
   generalize wr.setCell ⟨w.heap.size,2,none⟩ jw=W1 at R1 R2 ⊢
   go_loopw [7] (λt W=>∃q:Nat,q<=50/\fr+q<=n2/\t=.int .i64 ((fr:Int)+(q:Int))/\Hid (∃a c,RB W w.heap.size (.slice a1 n1 c1) (.slice a2 n2 c2) (.slice a q c)/\W.ownsRow (w.heap.size+1) 3 1 (.slice a q c) q ((wnd fr q).map (Value.int .i64)))/\Hid (Kept 0 0 w W)) (λt _=>n2+50-(intOf t).toNat)
   case atStart=>exact⟨0,Nat.zero_le _,by omega,by simp,⟨none,0,R1.out,World.ownsRow_nil _ _ _ _⟩,R2⟩
   case round=>
    obtain⟨q,hq,hqn,rfl,hR,hK⟩:=hrel
    clear R1 R2
    obtain⟨a',c',hB,hO⟩:=hR.out
    clear hR
    by_cases hc:fr+q<n2/\q<50
    ·obtain⟨hc1,hc2⟩:=hc
     have t1:decide ((fr:Int)+(q:Int)<(n2:Int))=true:=decide_eq_true (by omega)
     have t2:decide ((fr:Int)+(q:Int)<(fr:Int)+50)=true:=decide_eq_true (by omega)
     have ka:=hU 0 0 wr (.cells #[.int .i64 ((fr:Int)+(q:Int))] 3)
     have hO2:(wr.alloc (.cells #[.int .i64 ((fr:Int)+(q:Int))] 3)).ownsRow (w.heap.size+1) 3 1 (.slice a' q c') (wnd fr q).length ((wnd fr q).map (Value.int .i64)):=by rw[pS];exact iC hO ka
     have HB2:Hid _:=hB.keep ka
     have HK2:Hid _:=hK.out.trans ka
     have hsz:w.heap.size+1<=(wr.alloc (.cells #[.int .i64 ((fr:Int)+(q:Int))] 3)).heap.size:=HB2.out.sz
     have HWL:Hid _:=pS fr q
     obtain⟨_,q0,q1,q2,_,_,qf2⟩:=hB
     clear ka hO hK
     go_upto_region 8 with (first|(at_builtin;refine jd _ rfl _ _ rfl (w.heap.size+1) _ (wnd fr q) rfl hO2 ⟨wr.heap.size,0,none⟩ ((fr:Int)+(q:Int)) rfl (by simp) (by have:=HWL.out;omega) hsz ?_;intro g9 cap9 n9 w9 hn9 hown9 hc9 hat9;have hb9:=jC HB2.out hc9 (λc=>by have:=(ii hO2 c).1;omega);have HB9:Hid _:=(lp hb9 (.slice (some ⟨g9,0,none⟩) n9 cap9)).2;have HK9:Hid _:=Chg.kept HK2.out hc9 (λi hi=>by have:=(ii hO2 hi).1;omega);have HO9:Hid _:=hown9;replace hn9:Hid _:=hn9;obtain⟨_,z0,z1,z2,f0,f1,f2⟩:=hb9))
     have e9:n9=q+1:=by have:=hn9.out;rw[List.length_append,HWL.out] at this;exact this
     subst e9
     go_wp2_with fail
     go_roundw
     case rel=>
      refine⟨q+1,by omega,by omega,by go_num,⟨_,_,HB9.out,?_⟩,kT w w9 HK9.out w.heap.size 2 _ (Nat.le_refl _)⟩
      rw[y9]
      exact iR HO9.out (it (lo:=w.heap.size) (hi:=w.heap.size+1) w9 ⟨w.heap.size,2,none⟩ _ (.inl ⟨Nat.le_refl _,Nat.lt_succ_self _⟩)) λg hg=>.inr (ii HO9.out hg).1
     case measure=>simp[intOf];omega
    ·have HQ:Hid (n2<=fr+q\/50<=q):=by show _\/_;omega
     have HB2:Hid _:=hB
     have HG:Hid (GS wr a1 n1 a2 n2 a' q ins vs (wnd fr q)):=⟨(HF.out.keep hK.out).i,(HF.out.keep hK.out).v,sI hO (pS fr q)⟩
     obtain⟨N,Cd,L,hE⟩:=EvS.some ins vs (wnd fr q) xss n2 q
     have HX:Hid _:=uw wr a1 a2 a' b n1 c1 n2 c2 q c' m cb ins vs (wnd fr q) xss HG.out (HS.out.keep hK.out) HW.out hn N Cd L hE
     have HE:Hid _:=hE
     obtain⟨_,q0,q1,q2,_,_,_⟩:=hB
     have t3:(decide ((fr:Int)+(q:Int)<(n2:Int))=false)\/(decide ((fr:Int)+(q:Int)<(n2:Int))=true/\q=50):=by
      by_cases c:fr+q<n2
      ·exact .inr ⟨decide_eq_true (by omega),by omega⟩
      ·exact .inl (decide_eq_false (by omega))
     have HT:Hid _:=t3
     clear t3 hc hE hO
     have HP:Hid (∀W5,Kept 0 0 wr W5->_):=λW5 (k5:Kept 0 0 wr W5)=>And.intro (HB2.out.keep k5) (hK.out.trans k5)
     have HC:Hid (∀(z:List (List Nat)),Cd=0->(∀j,j<N->same (z.getD j []) (L j))->(∀j,j<N->(z.getD j []).all (okW m12)=true)->∀i,i<fr+50->i<n2->SmO m12 ins vs xss n2 i):=λz h0 h1 h2 i hi hi2=>by
      by_cases c:i<fr
      ·exact hM.out i c hi2
      rcases HE.out with⟨_,_,e⟩|⟨_,_,_,e⟩|⟨g1,g2,g3,_,g4⟩
      ·omega
      ·omega
      ·subst g3
       have:=HQ.out
       exact Fd HL.out g1 g2 (λj hj=>by rw[<-g4];exact h1 j hj) h2 hi2 (by omega) (by omega)
     have HN50:Hid (N<=50):=by
      show N<=50
      rcases HE.out with⟨_,e,_⟩|⟨_,_,e,_⟩|⟨_,_,e,_⟩<;>omega
     have HLN:Hid (∀(z:List (List Nat)),Cd=0->(∀j,j<N->same (z.getD j []) (L j))->∀j,j<N->(z.getD j []).length<=100000):=λz h0 h1 j hj=>by
      rcases HE.out with⟨_,_,e⟩|⟨_,_,_,e⟩|⟨g1,g2,g3,_,g4⟩
      ·omega
      ·omega
      ·subst g3
       exact DL HL.out g1 g2 hj (by rw[<-g4];exact h1 j hj)
     clear HE HQ
     rcases HT.out with t1|⟨t1,rfl⟩
     all_goals
      clear HT
      try (have t1':decide ((fr:Int)+50<(n2:Int))=true:=decide_eq_true (by have:=of_decide_eq_true t1;omega))
      go_wp2_with fail
      refine Calls.mono HX.out ?_
      rintro e W5 ⟨a5,cap5,zss,rfl,hZ,hsm,k5⟩
      have HP5:Hid _:=HP.out W5 k5
      have HZ:Hid _:=hZ
      have HC5:Hid _:=λh0=>HC.out zss h0 hsm
      have HLN5:Hid _:=λh0=>HLN.out zss h0 hsm
      have hN:=HN50.out
      clear hZ hsm k5 HX HP HC HLN q0 q1 q2 hK hM HG HB2
      by_cases c0:Cd=0
      ·subst c0
       replace HC5:Hid _:=HC5.out rfl
       replace HLN5:Hid _:=HLN5.out rfl
       go_wp2_with fail
       go_loopw [10] (λt W=>∃j:Nat,j<=N/\t=.int .i64 (j:Int)/\Hid (∀p,p<j->(zss.getD p []).all (okW m12)=true)/\Hid (Kept 0 0 W5 W)) (λt _=>N-(intOf t).toNat)
       case atStart=>exact⟨0,Nat.zero_le _,rfl,λp hp=>absurd hp (Nat.not_lt_zero _),Kept.refl _ _ _⟩
       case round=>
        obtain⟨j,hj,rfl,hA,hK5⟩:=hrel
        by_cases hl3:j<N
        ·rcases (HZ.out.keep hK5.out).at_ with z0|⟨gb,ob,eb,y1,y2⟩
         ·omega
         cases eb
         obtain⟨bb,cc,g1,g2,g3⟩:=y2 j hl3
         have hlen:=HLN5.out j hl3
         have HWh:Hid _:=vq (cap:=cc) g3 hlen m12
         have HAl:Hid (∀r,(zss.getD j []).all (okW m12)=r->(r=true->∀p,p<j+1->(zss.getD p []).all (okW m12)=true)):=λr hr h p hp=>by
          by_cases c:p<j
          ·exact hA.out p c
          ·rw[show p=j by omega,hr,h]
         have HP6:Hid _:=HP5.out.2.trans hK5.out
         generalize (zss.getD j []).all (okW m12)=r at HWh HAl
         replace HAl:Hid _:=HAl.out r rfl
         generalize (zss.getD j []).length=zl at g1 HWh
         clear y1 y2 g2 g3 hlen hA
         go_wp2_with fail
         refine Calls.mono HWh.out ?_
         rintro e W6 ⟨rfl,k6⟩
         have R5:Hid _:=hK5.out.trans k6
         have R6:Hid _:=HP6.out.trans k6
         clear k6 HWh HP6 hK5
         cases r
         ·go_wp2
          go_ret
          exact⟨false,rfl,R6.out,λc=>by cases c⟩
         ·go_wp2
          go_roundw
          case rel=>exact⟨j+1,by omega,by go_num,HAl.out (by first|exact trivial|rfl),R5⟩
          case measure=>simp[intOf];omega
        ·have R5:Hid _:=HP5.out.1.keep hK5.out
         have R6:Hid _:=HP5.out.2.trans hK5.out
         have R7:Hid _:=HC5.out λp hp=>hA.out p (by omega)
         clear hA hK5 HC5 HLN5 HP5
         go_wp2
         go_roundw
         case rel=>exact⟨fr+50,by omega,by go_num,⟨_,R5.out⟩,R6,R7⟩
         case measure=>simp[intOf];omega
      ·have c0':(Cd !=0)=true:=by simpa using c0
       have R:Hid _:=HP5.out.2
       go_wp2
       go_ret
       exact⟨false,rfl,R.out,λc=>by cases c⟩
  ·go_wp2
   go_ret
   exact⟨true,rfl,hK.out,λ_ i hi=>hM.out i (by omega) hi⟩
end
section
open Go.RowKit Flt
variable {vs:List Vl} {Z D:Nat->Nat->Int} {gd j n x k i y:Nat} {dss:List (List Nat)} {xs:List Nat} {e T:Nat->Int} {z:Int}
theorem nj {op:BinOp}{a b:Nat}(h:FZ (cop op a b) z):∃r,FZ r z/\∀W:World,(binOp op 29 (.float .f64 a) (.float .f64 b)).run Tryz.prog W=.ok (.float .f64 r) W:=by
 unfold cop at h
 cases c:floatBits op .f64 a b with
 |some r=>rw[c] at h;exact⟨r,h,λW=>run_float_arith W op _ .f64 a b r c⟩
 |none=>
  rw[c] at h
  have:=vg h
  simp only[Option.getD_none] at this
  rw[zW] at this
  cases this
theorem fm6:FZ m6 1000000:=by
 have h:=lk 1000000 (by decide)
 rw[show floatOfInt .f64 1000000=m6 by kernel_rfl] at h
 exact h
theorem FM:FZ m12 1000000000000:=by
 have h:=lk 1000000000000 (by decide)
 rw[show floatOfInt .f64 1000000000000=m12 by kernel_rfl] at h
 exact h
theorem oh {Z' D':Nat->Nat->Int}(S:Shp vs i)(hw:whO (vd vs i).op)(hk:k<ln vs i)(hD:∀j,j<i->∀q,q<ln vs j->D j q=D' j q)(hZ:∀j,j<i->∀q,q<ln vs j->Z j q=Z' j q):lC vs Z D x T i k=lC vs Z' D' x T i k:=by
 have Sa:=S.a
 unfold lC
 by_cases c1:i<x
 ·rw[if_pos c1,if_pos c1]
 rw[if_neg c1,if_neg c1]
 by_cases c2:i=x
 ·rw[if_pos c2,if_pos c2]
 rw[if_neg c2,if_neg c2]
 unfold whO at hw
 rcases hw with c|c|c|c|c|c|c|c|c|c
 ·rw[c];rfl
 ·rw[c];rfl
 ·obtain⟨_,hb,la,lb⟩:=S.two (.inl c)
  have ha:=Sa (by omega) (by omega)
  rw[c]
  show _+_=_+_
  rw[hD _ ha.2 k (by omega),hD _ hb k (by omega)]
 ·obtain⟨_,hb,la,lb⟩:=S.two (.inr (.inl c))
  have ha:=Sa (by omega) (by omega)
  rw[c]
  show _-_=_-_
  rw[hD _ ha.2 k (by omega),hD _ hb k (by omega)]
 ·obtain⟨_,hb,la,lb⟩:=S.two (.inr (.inr c))
  have ha:=Sa (by omega) (by omega)
  rw[c]
  show _*_+_*_=_*_+_*_
  rw[hD _ ha.2 k (by omega),hD _ hb k (by omega),hZ _ ha.2 k (by omega),hZ _ hb k (by omega)]
 ·have la:=S.neg c
  have ha:=Sa (by omega) (by omega)
  rw[c]
  show -_=-_
  rw[hD _ ha.2 k (by omega)]
 ·have ha:=Sa (by omega) (by omega)
  rw[c]
  exact iQ _ λq hq=>hD _ ha.2 q hq
 ·have la:=S.fill c
  have ha:=Sa (by omega) (by omega)
  rw[c]
  exact hD _ ha.2 0 (by omega)
 ·have la:=S.pick c
  have ha:=Sa (by omega) (by omega)
  rw[c]
  exact hD _ ha.2 _ la.2
 ·have la:=S.put c
  have ha:=Sa (by omega) (by omega)
  rw[c]
  show(if k=(vd vs i).c.toNat then _ else _)=(if k=(vd vs i).c.toNat then _ else _)
  rw[hD _ ha.2 0 (by omega)]
def dz (dss:List (List Nat))(i k:Nat):Int:=zf ((dss.getD i []).getD k 0)
def MvI (vs:List Vl)(Z:Nat->Nat->Int)(T:Nat->Int)(x:Nat)(dss:List (List Nat))(i:Nat):Prop:=
 ∀j,j<i->(dss.getD j []).length=ln vs j/\∀k,k<ln vs j->FZ ((dss.getD j []).getD k 0) (dz dss j k)/\(-1000000<=dz dss j k/\dz dss j k<=1000000)/\dz dss j k=lC vs Z (dz dss) x T j k
theorem qH (h:j<dss.length):(dss++[xs]).getD j []=dss.getD j []:=by
 rw[List.getD_eq_getElem?_getD,List.getElem?_append_left h,<-List.getD_eq_getElem?_getD]
theorem MvI.snoc (h:MvI vs Z T x dss i)(hl:dss.length=i)(hS:∀j,j<=i->Shp vs j)(hw:∀j,j<=i->whO (vd vs j).op)(hx:xs.length=ln vs i)(hd:∀k,k<ln vs i->FZ (xs.getD k 0) (lC vs Z (dz dss) x T i k))(hb:xs.all (okW m6)=true):MvI vs Z T x (dss++[xs]) (i+1):=by
 have hz:∀j,j<i->∀q,dz (dss++[xs]) j q=dz dss j q:=λj hj q=>by unfold dz;rw[qH (by omega)]
 intro j hj
 by_cases c:j<i
 ·obtain⟨h1,h2⟩:=h j c
  rw[qH (by omega)]
  refine⟨h1,λk hk=>?_⟩
  rw[hz j c,oh (hS j (by omega)) (hw j (by omega)) hk (λp hp q _=>hz p (by omega) q) (λ_ _ _ _=>rfl)]
  exact h2 k hk
 ·have e:j=i:=by omega
  subst e
  have e1:(dss++[xs]).getD j []=xs:=nU hl
  refine⟨by rw[e1];exact hx,λk hk=>?_⟩
  have hf:=hd k hk
  have e2:dz (dss++[xs]) j k=lC vs Z (dz dss) x T j k:=by unfold dz;rw[e1];exact rI hf
  rw[e2,oh (hS j (by omega)) (hw j (by omega)) hk (λp hp q _=>hz p hp q) (λ_ _ _ _=>rfl),e1]
  have hok:=vu hb (k:=k) (by omega)
  rw[yu fm6 hf] at hok
  exact⟨hf,of_decide_eq_true hok,rfl⟩
structure LL (W:World)(gd g off n:Nat)(L:List (List Nat)):Prop where
 lt:g<gd
 at_:∀j,j<n->∃b o c,W.cell? ⟨g,off+j,none⟩=some (.slice (some ⟨b,o,none⟩) (L.getD j []).length c)/\b<gd/\∀k,k<(L.getD j []).length->W.cell? ⟨b,o+k,none⟩=some (.float .f64 ((L.getD j []).getD k 0))
theorem LL.keep {W W':World}{g off l h:Nat}{L:List (List Nat)}(f:LL W gd g off n L)(k:Kept l h W W')(hd:gd<=l\/h<=l)(hs:gd<=W.heap.size):LL W' gd g off n L:=
 ⟨f.lt,λj hj=>by
  obtain⟨b,o,c,h1,h2,h3⟩:=f.at_ j hj
  have hlt:=f.lt
  refine⟨b,o,c,?_,h2,λq hq=>?_⟩
  ·rw[k.cell (p:=⟨g,off+j,none⟩) (by show g<_;omega) (by show ¬(l<=g/\g<h);omega)];exact h1
  ·rw[k.cell (p:=⟨b,o+q,none⟩) (by show b<_;omega) (by show ¬(l<=b/\b<h);omega)];exact h3 q hq⟩
theorem SS.ll {w:World}{a:Option Addr}{xss:List (List Nat)}(f:SS w a n xss)(hn:0<n)(hl:∀j,j<n->0<(xss.getD j []).length)(hg:w.heap.size<=gd):∃g off,a=some ⟨g,off,none⟩/\LL w gd g off n xss:=by
 rcases f.at_ with h0|⟨g,off,e,h1,h2⟩
 ·omega
 ·refine⟨g,off,e,by omega,λj hj=>?_⟩
  obtain⟨b,c,k1,_,k3⟩:=h2 j hj
  have:=hl j hj
  rcases k3.at_ with h0|⟨g',o',e',z1,z2,z3,z4⟩
  ·omega
  ·subst e'
   exact⟨g',o',c,k1,by omega,z4⟩
theorem AR.ssz {W:World}{base:Nat}{v:Value}{Vs:List (List Nat)}(f:AR W base v k Vs)(hl:Vs.length=k)(hz:∀j,j<k->∀q,q<(Vs.getD j []).length->∃z,FZ ((Vs.getD j []).getD q 0) z):∃a cap,v=.slice a k cap/\SS W a k Vs:=by
 obtain⟨a,cap,zss,e,hss,hsm⟩:=f.ss
 refine⟨a,cap,e,?_⟩
 have e2:zss=Vs:=by
  refine List.ext_getElem (by rw[hss.len,hl]) λj h1 h2=>?_
  have hj:j<k:=by rw[<-hss.len];exact h1
  have:=pR (hsm j hj) (hz j hj)
  rw[List.getD_eq_getElem?_getD,List.getD_eq_getElem?_getD,List.getElem?_eq_getElem h1,List.getElem?_eq_getElem h2] at this
  exact this
 rw[<-e2]
 exact hss
def DQ (W:World)(gd n:Nat)(e:Nat->Int)(k:Nat)(z:Int):Prop:=
 ∃xs,xs.length=n/\(∀j,j<k->FZ (xs.getD j 0) (e j))/\FZ (xs.getD k 0) z/\(∀j,k<j->xs.getD j 0=0)/\FR W gd xs
abbrev DP (W:World)(gd n:Nat)(e:Nat->Int)(k:Nat):Prop:=DQ W gd n e k 0
theorem pr:(xs.set i y).getD j 0=if i=j/\i<xs.length then y else xs.getD j 0:=by
 rw[List.getD_eq_getElem?_getD,List.getElem?_set]
 by_cases c:i=j
 ·subst c
  by_cases d:i<xs.length
  ·rw[if_pos rfl,if_pos d,if_pos ⟨rfl,d⟩];rfl
  ·rw[if_pos rfl,if_neg d,if_neg (λh=>d h.2),List.getD_eq_getElem?_getD,List.getElem?_eq_none (by omega)]
 ·rw[if_neg c,if_neg (λh=>c h.1),<-List.getD_eq_getElem?_getD]
theorem DQ.put {W:World}{z':Int}(h:DQ W gd n e k z)(hk:k<n)(hy:FZ y z'):DQ (W.setCell ⟨gd,k,none⟩ (.float .f64 y)) gd n e k z':=by
 obtain⟨xs,h1,h2,h3,h4,h5⟩:=h
 refine⟨xs.set k y,by rw[List.length_set,h1],λj hj=>?_,?_,λj hj=>?_,h5.set k y⟩
 ·rw[pr,if_neg (λc=>by omega)];exact h2 j hj
 ·rw[pr,if_pos ⟨rfl,by omega⟩];exact hy
 ·rw[pr,if_neg (λc=>by omega)];exact h4 j hj
theorem DQ.next {W:World}(h:DQ W gd n e k z)(he:z=e k):DP W gd n e (k+1):=by
 obtain⟨xs,h1,h2,h3,h4,h5⟩:=h
 refine⟨xs,h1,λj hj=>?_,?_,λj hj=>h4 j (by omega),h5⟩
 ·by_cases c:j<k
  ·exact h2 j c
  ·rw[show j=k by omega,<-he];exact h3
 ·rw[h4 (k+1) (by omega)];exact lk 0 (by decide)
theorem DQ.drewN {W:World}(h:DQ W gd n e k z)(m:Nat):DQ (W.drewN m) gd n e k z:=by
 obtain⟨xs,h1,h2,h3,h4,h5⟩:=h
 exact⟨xs,h1,h2,h3,h4,h5.drewN m⟩
theorem DQ.cell {W:World}(h:DQ W gd n e k z)(hk:k<n):∃y,W.cell? ⟨gd,k,none⟩=some (.float .f64 y)/\FZ y z:=by
 obtain⟨xs,h1,_,h3,_,h5⟩:=h
 exact⟨_,h5.cell k (by omega),h3⟩
theorem DQ.free {W:World}(h:DQ W gd n e k z)(o:Nat):W.frozen? ⟨gd,o,none⟩=false:=by
 obtain⟨xs,_,_,_,_,h5⟩:=h
 exact h5.free o
theorem DQ.lt {W:World}(h:DQ W gd n e k z):gd<W.heap.size:=by
 obtain⟨xs,_,_,_,_,h5⟩:=h
 exact h5.lt
theorem ze (w:World)(n:Nat)(e:Nat->Int):DP (w.alloc (.cells (madeCells #[.float .f64 0] n) 29)) w.heap.size n e 0:=by
 have h0:∀j,(List.replicate n 0).getD j 0=0:=λj=>by
  rw[List.getD_eq_getElem?_getD,List.getElem?_replicate]
  split<;>rfl
 exact⟨List.replicate n 0,by simp,λj hj=>absurd hj (Nat.not_lt_zero _),by rw[h0];exact lk 0 (by decide),λj _=>h0 j,FR.made w n⟩
theorem DP.zero {W:World}{gd n:Nat}{e:Nat->Int}(h:DP W gd n e 0)(he:∀k,k<n->e k=0):∀k,k<=n->DP W gd n e k
 |0,_=>h
 |k+1,hk=>(DP.zero h he k (by omega)).next (he k (by omega)).symm
theorem ma {v:Vl}(hv:vd vs i=v)(hx:x<i):lC vs Z D x T i k=
  (if v.op=2 then D v.a.toNat k+D v.b.toNat k
  else if v.op=3 then D v.a.toNat k-D v.b.toNat k
  else if v.op=4 then D v.a.toNat k*Z v.b.toNat k+Z v.a.toNat k*D v.b.toNat k
  else if v.op=6 then -D v.a.toNat k else if v.op=10 then D v.a.toNat 0
  else if v.op=11 then D v.a.toNat v.c.toNat
  else if v.op=12 then (if k=v.c.toNat then D v.a.toNat 0 else 0)
  else if v.op=9 then iX (D v.a.toNat) (ln vs v.a.toNat) else 0):=by
 unfold lC
 rw[if_neg (by omega),if_neg (by omega),hv]
theorem zh (h1:xs.length=n)(h2:∀j,j<n->FZ (xs.getD j 0) (e j)):∀y∈xs,y<18446744073709551616:=λy hy=>by
 obtain⟨j,hj,rfl⟩:=List.getElem_of_mem hy
 have:=yr (h2 j (by omega))
 rw[List.getD_eq_getElem?_getD,List.getElem?_eq_getElem hj] at this
 exact this
end
end Go.Proofs.YtnlffngpnoodkaaGreat
