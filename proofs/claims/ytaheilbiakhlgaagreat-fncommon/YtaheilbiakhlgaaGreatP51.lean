import Derived.Test.YtaheilbiakhlgaaGreatP50
import Derived.Test.YtaheilbiakhlgaaGreatP43
namespace Go.Proofs.Z
variable{Zp:Prop}
open Tryz Go.RowKit Flt
set_option maxRecDepth 1000000
set_option maxHeartbeats 0
section
variable{B:Type}{be:World}{P I n g9 n9 cap9:Nat}{u1 u2 u3 u4:Value}{bs:List Bc}{st:LSt}{zs:List Int}
theorem If{f}(Q:TrC f){es ts}(aF:Pr n es ts):∀e,es=[e]->n<=2->∀(W:World) (P I:Nat) (u1 u2 u3 u4:Value) (bs:List Bc) (st:LSt) (bC:Option Addr) (bn cL:Nat) (u:Loc) (g off m cap:Nat),TrIn W P I u1 u2 u3 u4 bs st bC bn u g off m cap ts->∀r,eP (f+1) st u e=some r->
  Calls prog 103 #[hD P,.slice bC bn cL,.slice (some ⟨g,off,none⟩) m cap] W (TrO W P I u1 u2 u3 u4 bs r):=by
 induction aF with
 |up01 _ al=>intro e ad hn;exact al e ad xaa
 |up12 _ al=>intro e ad hn;exact al e ad xaa
 |arg1 _ _=>intro e ad hn;omega
 |argM _ _ _ _ _=>intro e ad hn;omega
 |add F ax hb _ _=>intro e ad hn;cases ad;intro W P I u1 u2 u3 u4 bs st bC bn cL u g off m cap H r h;exact GM Q H F ax hb h
 |mul F ax hb _ _=>intro e ad hn;cases ad;intro W P I u1 u2 u3 u4 bs st bC bn cL u g off m cap H r h;exact GN Q H F ax hb h
 |neg ax F _=>intro e ad hn;cases ad;intro W P I u1 u2 u3 u4 bs st bC bn cL u g off m cap H r h;exact GO Q H ax F h
 |num ht=>intro e ad hn;cases ad;intro W P I u1 u2 u3 u4 bs st bC bn cL u g off m cap H r h;exact GV H ht h
 |name ht=>intro e ad hn;cases ad;intro W P I u1 u2 u3 u4 bs st bC bn cL u g off m cap H r h;exact Dt H ht h
 |par ah F ao al=>intro e ad hn;cases ad;intro W P I u1 u2 u3 u4 bs st bC bn cL u g off m cap H r h;exact GP H ah F ao (λW' i=>al _ rfl yad _ P I _ _ _ _ _ _ _ _ _ _ g _ _ _ i r h)
 |call0 ht ah ao=>intro e ad hn;cases ad;intro W P I u1 u2 u3 u4 bs st bC bn cL u g off m cap H r h;exact A5 Q H ht ah ao h
 |call ht ah F ao _=>intro e ad hn;cases ad;intro W P I u1 u2 u3 u4 bs st bC bn cL u g off m cap H r h;exact Ee Q H ht ah F ao h
 |key1 O ah F ao _=>intro e ad hn;cases ad;intro W P I u1 u2 u3 u4 bs st bC bn cL u g off m cap H r h;exact Dz Q H O ah F ao h
 |key2 O ah F ak hb ao _ _=>intro e ad hn;cases ad;intro W P I u1 u2 u3 u4 bs st bC bn cL u g off m cap H r h;exact Eb Q H O ah F ak hb ao h
 |key3 O ah F ak hb ab G ao _ _ _=>intro e ad hn;cases ad;intro W P I u1 u2 u3 u4 bs st bC bn cL u g off m cap H r h;exact Ec Q H O ah F ak hb ab G ao h
 |keyN O ah F ak br ao _=>intro e ad hn;cases ad;intro W P I u1 u2 u3 u4 bs st bC bn cL u g off m cap H r h;exact DA Q H O ah F ak br ao h
 |put O ah F ak hi ab br ao _=>intro e ad hn;cases ad;intro W P I u1 u2 u3 u4 bs st bC bn cL u g off m cap H r h;exact GU Q H O ah F ak hi ab br ao h
 |grad O ah F ak ap ao _=>intro e ad hn;cases ad;intro W P I u1 u2 u3 u4 bs st bC bn cL u g off m cap H r h;exact Ek Q H O ah F ak ap ao h
 |jvp O ah F ak ap ab hb ao _ _=>intro e ad hn;cases ad;intro W P I u1 u2 u3 u4 bs st bC bn cL u g off m cap H r h;exact Ie Q H O ah F ak ap ab hb ao h
theorem trc:∀f,TrC f
 |0=>λW P I u1 u2 u3 u4 bs st bC bn cL u g off m cap ts H n e aF hn r h=>by rw[eP]at h;cases h
 |f+1=>λW P I u1 u2 u3 u4 bs st bC bn cL u g off m cap ts H n e aF hn r h=>If (trc f) aF e rfl hn W P I u1 u2 u3 u4 bs st bC bn cL u g off m cap H r h
theorem pq(a b:List B)(z i)(h:i<a.length):(a++b).getD i z=a.getD i z:=by
 grind
theorem vD(a)(x z:B):(a++[x]).getD a.length z=x:=by
 simp_all
theorem rF(a:List B)(x z i)(h:i<a.length):(a.set i x).getD i z=x:=by
 simp_all
theorem tY(a:List B)(x z i j)(h:i≠j):(a.set i x).getD j z=a.getD j z:=by
 simp_all
theorem bM.qby(h:Zp:=by
 have J:g9≠P:=λe=>by
  subst e
  rcases bm with c|c
  ·exact a5 c
  ·have:=h.lt;omega
 have t:(Value.slice _ _ _).ownBlock≠some P:=λc=>J ((bB P).1 c);have am:∀o,_:=λo=>X.cell (p:=⟨P,o,none⟩) h.lt a5;have es:∀o,o≠0->(be.setCell ⟨P,0,_⟩ (hE g9 n9 cap9)).cell? _=W.cell? _:=λo ax=>(eN _ _ _ _ _ _ (.inr (λe=>ax e.symm))).trans (am o);have ae:=(eU (lo:=P) (hi:=P+1) be ⟨P,0,none⟩ (hE g9 n9 cap9) yac)
 have aL:Mv (Mst P u1 u2 u3 u4) W (Mst P (hE g9 n9 cap9) u2 u3 u4) (be.setCell ⟨P,0,none⟩ (hE g9 n9 cap9)):=by
  refine⟨Chg.andThen ⟨X.os,X.tape,X.output,X.size,λi hi hn=>X.block i hi (λc=>hn (.inr (.inl c)))⟩ (ae.chg1 (.inl rfl)),λb hb=>?_⟩;rcases hb with c|c|c|c|c
  ·exact .inl (.inl c)
  ·rw[bB]at c;subst c;rcases bm with d|d
   ·exact .inl (.inr (.inl d))
   omega
  ·exact .inl (.inr (.inr (.inl c)))
  ·exact .inl (.inr (.inr (.inr (.inl c))))
  exact .inl (.inr (.inr (.inr (.inr c))))
 exact qex):Zp:=h
theorem bM.qey(h:Zp:=by
 refine⟨⟨by simpa using yaj h.lt X.size,λo=>?_,fR _ _ _ _ _ ((am 0).trans h.c0),(es 1 xab).trans h.c1,(es 2 xab).trans h.c2,(es 3 xab).trans h.c3,(es 4 xab).trans h.c4,(es 5 xab).trans h.c5,(es 6 xab).trans h.c6,?_,?_,?_,?_,⟨t,p2,z,l⟩,⟨(bJ h.r2 f.symm).symm,(bJ h.r3 m.symm).symm,(bJ h.r4 p.symm).symm,C,q,r⟩,h.nl,λi hi=>(h.nb i hi).mv aL,h.sz⟩,aL⟩
 ·have:=(X.frozen h.lt a5).trans (h.fr o);simp[this]
 ·subst hn;exact eJ aU t
 ·exact eJ (fI h.r2 X (λb hb c=>f b c hb)) p2
 ·exact eJ (fI h.r3 X (λb hb c=>m b c hb)) z
 exact eJ (fI h.r4 X (λb hb c=>p b c hb)) l):Zp:=h
open bM in
theorem WS.ins_{W}(h:WS W P I u1 u2 u3 u4 bs st)(X:Chg (λb=>u1.ownBlock=some b) W be)(hn:n9=zs.length)(aU:be.ownsRow I 3 1 (hE g9 n9 cap9) n9 (zs.map (Value.int .i64)))(bm:u1.ownBlock=some g9\/W.heap.size<=g9):
  WS (be.setCell ⟨P,0,none⟩ (hE g9 n9 cap9)) P I (hE g9 n9 cap9) u2 u3 u4 bs {st with ins:=zs}/\Mv (Mst P u1 u2 u3 u4) W (Mst P (hE g9 n9 cap9) u2 u3 u4) (be.setCell ⟨P,0,none⟩ (hE g9 n9 cap9)):=by
 exact qbx
theorem bN.qby(h:Zp:=by
 have J:g9≠P:=λe=>by
  subst e
  rcases bm with c|c
  ·exact z c
  ·have:=h.lt;omega
 have t:(Value.slice _ _ _).ownBlock≠some P:=λc=>J ((bB P).1 c);have am:∀o,_:=λo=>X.cell (p:=⟨P,o,none⟩) h.lt z;have es:∀o,o≠2->(be.setCell ⟨P,2,_⟩ (hE g9 n9 cap9)).cell? _=W.cell? _:=λo ax=>(eN _ _ _ _ _ _ (.inr (λe=>ax e.symm))).trans (am o);have ae:=(eU (lo:=P) (hi:=P+1) be ⟨P,2,none⟩ (hE g9 n9 cap9) yac)
 have aL:Mv (Mst P u1 u2 u3 u4) W (Mst P u1 u2 (hE g9 n9 cap9) u4) (be.setCell ⟨P,2,none⟩ (hE g9 n9 cap9)):=by
  refine⟨Chg.andThen ⟨X.os,X.tape,X.output,X.size,λi hi hn=>X.block i hi (λc=>hn (.inr (.inr (.inr (.inl c)))))⟩ (ae.chg1 (.inl rfl)),λb hb=>?_⟩;rcases hb with c|c|c|c|c
  ·exact .inl (.inl c)
  ·exact .inl (.inr (.inl c))
  ·exact .inl (.inr (.inr (.inl c)))
  ·rw[bB]at c;subst c;rcases bm with d|d
   ·exact .inl (.inr (.inr (.inr (.inl d))))
   omega
  exact .inl (.inr (.inr (.inr (.inr c))))
 exact qex):Zp:=h
theorem bN.qey(h:Zp:=by
 refine⟨⟨by simpa using yaj h.lt X.size,λo=>?_,(es 0 xab).trans h.c0,(es 1 xab).trans h.c1,fR _ _ _ _ _ ((am 2).trans h.c2),(es 3 xab).trans h.c3,(es 4 xab).trans h.c4,(es 5 xab).trans h.c5,(es 6 xab).trans h.c6,?_,?_,?_,?_,⟨a5,p2,t,l⟩,⟨f,bJ h.r1 m,p,bJ h.r2 C,q,(bJ h.r4 r.symm).symm⟩,h.nl,λi hi=>(h.nb i hi).mv aL,h.sz⟩,aL⟩
 ·have:=(X.frozen h.lt z).trans (h.fr o);simp[this]
 ·exact eJ (fI h.r1 X (λb hb c=>m b hb c)) a5
 ·exact eJ (fI h.r2 X (λb hb c=>C b hb c)) p2
 ·subst hn;exact eJ aU t
 exact eJ (fI h.r4 X (λb hb c=>r b c hb)) l):Zp:=h
open bN in
theorem WS.outs_{W}(h:WS W P I u1 u2 u3 u4 bs st)(X:Chg (λb=>u3.ownBlock=some b) W be)(hn:n9=zs.length)(aU:be.ownsRow I 3 1 (hE g9 n9 cap9) n9 (zs.map (Value.int .i64)))(bm:u3.ownBlock=some g9\/W.heap.size<=g9):
  WS (be.setCell ⟨P,2,none⟩ (hE g9 n9 cap9)) P I u1 u2 (hE g9 n9 cap9) u4 bs {st with outs:=zs}/\Mv (Mst P u1 u2 u3 u4) W (Mst P u1 u2 (hE g9 n9 cap9) u4) (be.setCell ⟨P,2,none⟩ (hE g9 n9 cap9)):=by
 exact qbx
theorem bO.qby(h:Zp:=by
 have J:g9≠P:=λe=>by
  subst e
  rcases bm with c|c
  ·exact l c
  ·have:=h.lt;omega
 have t:(Value.slice _ _ _).ownBlock≠some P:=λc=>J ((bB P).1 c);have am:∀o,_:=λo=>X.cell (p:=⟨P,o,none⟩) h.lt l;have es:∀o,o≠3->(be.setCell ⟨P,3,_⟩ (hE g9 n9 cap9)).cell? _=W.cell? _:=λo ax=>(eN _ _ _ _ _ _ (.inr (λe=>ax e.symm))).trans (am o);have ae:=(eU (lo:=P) (hi:=P+1) be ⟨P,3,none⟩ (hE g9 n9 cap9) yac)
 have aL:Mv (Mst P u1 u2 u3 u4) W (Mst P u1 u2 u3 (hE g9 n9 cap9)) (be.setCell ⟨P,3,none⟩ (hE g9 n9 cap9)):=by
  refine⟨Chg.andThen ⟨X.os,X.tape,X.output,X.size,λi hi hn=>X.block i hi (λc=>hn (.inr (.inr (.inr (.inr c)))))⟩ (ae.chg1 (.inl rfl)),λb hb=>?_⟩;rcases hb with c|c|c|c|c
  ·exact .inl (.inl c)
  ·exact .inl (.inr (.inl c))
  ·exact .inl (.inr (.inr (.inl c)))
  ·exact .inl (.inr (.inr (.inr (.inl c))))
  rw[bB]at c;subst c;rcases bm with d|d
  ·exact .inl (.inr (.inr (.inr (.inr d))))
  omega
 exact qex):Zp:=h
theorem bO.qey(h:Zp:=by
 refine⟨⟨by simpa using yaj h.lt X.size,λo=>?_,(es 0 xab).trans h.c0,(es 1 xab).trans h.c1,(es 2 xab).trans h.c2,fR _ _ _ _ _ ((am 3).trans h.c3),(es 4 xab).trans h.c4,(es 5 xab).trans h.c5,(es 6 xab).trans h.c6,?_,?_,?_,?_,⟨a5,p2,z,t⟩,⟨f,m,bJ h.r1 p,C,bJ h.r2 q,bJ h.r3 r⟩,(by simp only[yak,List.length_singleton];rw[h.nl]),λi hi=>by
  simp only
  by_cases c:i<bs.length
  ·rw[pq _ _ _ _ c,pq _ _ _ _ (hS h.nl c)]
   exact(h.nb i c).mv aL
  ·have e:i=bs.length:=by grind
   subst e
   rw[vD,h.nl,vD]
   exact hb aL,h.sz⟩,aL⟩
 ·have:=(X.frozen h.lt l).trans (h.fr o);simp[this]
 ·exact eJ (fI h.r1 X (λb hb c=>p b hb c)) a5
 ·exact eJ (fI h.r2 X (λb hb c=>q b hb c)) p2
 ·exact eJ (fI h.r3 X (λb hb c=>r b hb c)) z
 subst hn;exact eJ aU t):Zp:=h
open bO in
theorem WS.nms_{W}(h:WS W P I u1 u2 u3 u4 bs st)(X:Chg (λb=>u4.ownBlock=some b) W be){b d}(hn:n9=(bs++[b]).length)(aU:be.ownsRow I 128 5 (hE g9 n9 cap9) n9 (bcF (bs++[b])))(bm:u4.ownBlock=some g9\/W.heap.size<=g9)(hb:Mv (Mst P u1 u2 u3 u4) W (Mst P u1 u2 u3 (hE g9 n9 cap9)) (be.setCell ⟨P,3,none⟩ (hE g9 n9 cap9))->BcOK (Mst P u1 u2 u3 (hE g9 n9 cap9)) (be.setCell ⟨P,3,none⟩ (hE g9 n9 cap9)) b d):
  WS (be.setCell ⟨P,3,none⟩ (hE g9 n9 cap9)) P I u1 u2 u3 (hE g9 n9 cap9) (bs++[b]) {st with names:=st.names++[d]}/\Mv (Mst P u1 u2 u3 u4) W (Mst P u1 u2 u3 (hE g9 n9 cap9)) (be.setCell ⟨P,3,none⟩ (hE g9 n9 cap9)):=by
 exact qbx
theorem Ol{W:World}{e s g cap k:Nat}{xs u}(h:W.ownsRow I e s (hE g n cap) n xs):(W.setCell ⟨g,k,none⟩ u).ownsRow I e s (hE g n cap) n (xs.set k u):=by
 refine⟨by rw[List.length_set];exact h.1,?_⟩;rcases h.2 with⟨c,_⟩|⟨aA,cap',H,af,N,aD,ad,an,bE,bY⟩
 ·cases c
 cases af;refine .inr ⟨g,_,H.setIfInBounds k u,rfl,N,?_,ad,an,by grind,?_⟩
 ·rw[heap_setCell_same W g k _ _ _ aD]
 grind[List.take_set]
theorem Cg:∀(bs:List Bc) (k:Nat) (v:Int),k<bs.length->(bcF bs).set (k*5+2) (hF v)=bcF (bs.set k {bs.getD k hM with val:=v})
 |b::r,0,v,_=>by simp[bcF,Bc.cells]
 |b::r,k+1,v,h=>by
  have hb:b.cells.length=5:=rfl
  rw[bcF,List.set_append_right _ _ xaa,hb,show(k+1)*5+2-5=k*5+2 by omega,Cg r k v (by simpa using h)]
  rfl
theorem WS.setv{W}(h:WS W P I u1 u2 u3 u4 bs st){i}(hi:i<bs.length){s}{av v:Nat}(G:st.names.getD i (.val [] 0)=.val s av):∃bi b0,u4=hE bi bs.length b0/\bi<W.heap.size/\W.frozen? ⟨bi,i*5+2,none⟩=false/\WS (W.setCell ⟨bi,i*5+2,none⟩ (hF v)) P I u1 u2 u3 u4 (bs.set i {bs.getD i hM with val:=(v:Int)}) (st.setV i s v)/\Mv (Mst P u1 u2 u3 u4) W (Mst P u1 u2 u3 u4) (W.setCell ⟨bi,i*5+2,none⟩ (hF v)):=by
 obtain⟨bi,b0,e4,_,aQ,_,bm⟩:=mr h.r4 xaa;have bB:u4.ownBlock=some bi:=hU e4
 have cy:W.frozen? ⟨bi,i*5+2,none⟩=false:=by
  rcases h.r4.2 with⟨c,c2⟩|⟨aA,cap',H,af,N,aD,_⟩
  ·omega
  cases e4.symm.trans af;simp[World.frozen?,aD]
 refine⟨_,_,e4,aQ,cy,?_⟩;have K:=eU (lo:=bi) (hi:=bi+1) W ⟨_,i*5+2,none⟩ (hF v) yac;have aL:Mv _ W (Mst P u1 u2 u3 _) _:=⟨K.chg1 (.inr (.inr (.inr (.inr bB)))),λb hb=>.inl hb⟩
 obtain⟨Y,ab,aa,l⟩:=h.np;obtain⟨f,m,p,C,q,r⟩:=h.ap;have J:bi≠P:=λe=>l (by grind);have es:∀o,(W.setCell ⟨_,i*5+2,_⟩ (hF v)).cell? _=W.cell? ⟨P,o,_⟩:=λo=>eN _ _ _ _ _ _ (.inl J);refine⟨⟨by simpa using h.lt,λo=>by simp[h.fr o],(es 0).trans h.c0,(es 1).trans h.c1,(es 2).trans h.c2,(es 3).trans h.c3,(es 4).trans h.c4,(es 5).trans h.c5,(es 6).trans h.c6,eJ h.r1 (λc=>p _ c bB),eJ h.r2 (λc=>q _ c bB),eJ h.r3 (λc=>r _ c bB),?_,h.np,h.ap,?_,λj hj=>?_,h.sz⟩,aL⟩
 ·have:=Ol (k:=i*5+2) (u:=hF v) (by have:=h.r4;rw[e4]at this;exact this);rw[Cg _ i v hi]at this;rw[e4,List.length_set];exact this
 ·show(bs.set i _).length=(st.names.set i _).length;rw[List.length_set,List.length_set,h.nl]
 rw[List.length_set]at hj;show BcOK _ _ ((bs.set i _).getD j hM) ((st.names.set i _).getD j (.val [] 0));by_cases c:j=i
 ·subst c;have hb:=h.nb j hi;rw[G]at hb;rw[rF _ _ _ _ hi,rF _ _ _ _ (hS h.nl hi)];exact⟨hb.1,hb.2.1,rfl⟩
 rw[tY _ _ _ _ _ (λe=>c e.symm),tY _ _ _ _ _ (λe=>c e.symm)];exact(h.nb j hj).mv aL
def StO(W:World)(P B:Nat)(u1 u2 u3 u4:Value)(r:Rs LSt)(e:Ending)(W':World):Prop:=
 e=.returned (.tuple #[])/\match r with
 |.error (c,p)=>W'.cell? ⟨P,5,none⟩=some (.int .i64 c)/\W'.cell? ⟨P,6,none⟩=some (.int .i64 (p:Int))/\Chg (Mst P u1 u2 u3 u4) W W'
 |.ok st=>∃bs v1 v2 v3 v4,WS W' P B v1 v2 v3 v4 bs st/\Mv (Mst P u1 u2 u3 u4) W (Mst P v1 v2 v3 v4) W'
end
section
attribute[local go_sem] eF eE eD
variable{f j P I g off m cap:Nat}{aT us ts:List Tok}{u1 u2 u3 u4:Value}{st:LSt}{s:List UInt8}{bs:List Bc}{n k q:Tok}{e:Ex}{r:Rs LSt}
theorem Ig{W}(H:TrIn W P I u1 u2 u3 u4 bs st none 0 [] g off m cap (k::ts))(O:k.sym=JJ)(F:Pr 2 [e] ts)(h:iO f st (.outS k e)=some r):
  Calls prog 62 #[hD P,.slice (some ⟨g,off,none⟩) m cap] W (StO W P I u1 u2 u3 u4 r):=by
 have aw:=H.tk.len;rw[yap]at aw;have ah:=jl F;have bM:=H.mc;have bo:=H.m5;have ax:=H.gd.o;have c0:=H.tk.c0 0 xaa;have c1:=H.tk.c1 0 xaa;rw[show(k::ts).getD 0 hL=k from rfl]at c0 c1;rw[O]at c0;rw[show JJ=[111,117,116] from rfl]at c0;have p2:=H.ws.c2;obtain⟨a3,cj,aj⟩:=jr H.ws.r3;have bp:V _:=H.ws;have cy:V _:=H.gd;simp only[Nat.zero_mul,Nat.add_zero]at c0 c1;simp only[iO]at h;by_cases ak:50<=st.outs.length
 ·rw[hI ak]at h;have HR:V _:=(hJ h).symm;have bT:V _:=jI H.ws.c5 H.ws.c6 H.ws.fr 5 k.pos (Mst P u1 u2 u3 u4) (.inl rfl);have ai:(50:Int)<=(st.outs.length:Int):=xaa;clear H h;subst aj;generalize st.outs.length=l at*;generalize k.pos=K at*;go_enter func62,ntmps62;go_wp2_with (go_at_call 102;refine yai bT.o ?_;rintro e a8 ⟨rfl,aI⟩);refine yay (v:=.tuple #[]) (by simp[results,results62,go_sem]) rfl ?_;rw[HR.o];exact⟨rfl,aI.c5,aI.c6,aI.chg⟩
 rw[hG ak]at h;cases ad:eP f st [] e with
 |none=>rw[ad]at h;cases h
 |some az=>
  rw[ad]at h;have HR:V _:=(hJ h).symm;have cc:=jz F (λt ht=>H.ti t (by simp[ht])) e xac;have bl:=gF f st [] e H.gd H.nm H.lo cc az ad
  have ae:=H.sub H.ws (Gw.refl H.gd) (Mv.refl _ _) 1 m yad ts (by
   rw[List.drop_succ_cons,List.drop_zero,yao xaa]) (cap':=cap-1) xaa
  have bg:V _:=trc f W P I u1 u2 u3 u4 bs st none 0 0 [] g _ _ _ ts ae 2 e F yad az ad;have ai:¬(50:Int)<=(st.outs.length:Int):=xaa;have bk:V _:=bl;clear ae bl H h ad;subst aj;generalize au:st.outs.length=l at*;have u:V _:=au;clear au;generalize k.pos=K at*;rcases az with⟨c,p⟩|⟨s,v⟩
  ·go_enter func62,ntmps62;go_wp2_with (go_at_call 103;refine yai bg.o ?_;rintro e a8 ⟨rfl,bh⟩);refine yay (v:=.tuple #[]) (by simp[results,results62,go_sem]) rfl ?_;rw[HR.o];exact⟨rfl,bh⟩
  obtain⟨w,aM⟩:=bk.o s v rfl;have cH:0<=(v:Int):=xaa;have cb:V _:=w.o;go_enter func62,ntmps62;go_upto_region 6 with (go_at_call 103;refine yai bg.o ?_;rintro e a8 ⟨rfl,ba,bc,z,aa,aJ,G⟩);have aP:=aJ.c2;have bE:=ez 0 0 a8 (.cells #[hF v] 3);have i:V _:=aJ.keep bE;have b7:(a8.alloc (.cells #[hF v] 3)).cell? ⟨a8.heap.size,0,none⟩=some (hF v):=by rw[yau];rfl
  have S:V _:=G.keep bE;have aQ:V (I<=a8.heap.size):=by show _<=_;have:=aJ.sz;have:=aJ.lt;omega
  have am:V _:=w.g.o;clear aJ G c0 c1 p2 bg bk w;go_wp2_with (first|(at_builtin;refine fQ _ rfl _ _ rfl I _ s.outs (by rfl) i.o.r3 ⟨a8.heap.size,0,none⟩ (v:Int) (by rfl) b7 ?c2 ?c3 ?_)|fail)
  case c2=>have:=am.o;omega
  case c3=>have:=aQ.o;simp;omega
  intro g9 cap9 n9 be bO b1 bV b6;obtain⟨(o:V _),R⟩:=i.o.outs_ (n9:=n9) (cap9:=cap9) (g9:=g9) (zs:=s.outs++[(v:Int)]) bV (by rw[bO];simp) (by rw[List.map_append];exact b1) (b6.imp id (λe=>by rw[e];simp));have aB:=i.o.lt;have aV:=(bV.cell (p:=⟨P,2,none⟩) aB i.o.np.2.2.1).trans i.o.c2;have aL:=(bV.frozen (p:=⟨P,2,none⟩) aB i.o.np.2.2.1).trans (i.o.fr 2);have a5:V _:=S.o.trans R;clear R bV b1 b6 bO bE b7 i S;go_wp2_with fail;refine yay (v:=.tuple #[]) (by simp[results,results62,go_sem]) rfl ?_;rw[HR.o];exact⟨rfl,_,_,_,_,_,o.o,a5.o⟩
theorem Om{aB k}(O:k<aB.length)(B:(aB.getD k (.val [] 0)).nm=s)(U:∀j,j<k->(aB.getD j (.val [] 0)).nm≠s):Kf aB s=k:=by
 unfold Kf;rw[List.findIdx_eq O];have e:∀j (hj:j<aB.length),aB.getD j (.val [] 0)=aB[j]:=λj hj=>by simp_all
 grind
theorem K2(g:Gd st)(i s v):Gd (st.setV i s v):=⟨g.n,g.c,g.ok,g.k,g.i,g.o,by show(st.names.set i _).length<=5000;rw[List.length_set];exact g.m⟩
theorem K3(h:NmOK st)(i s){v}(aM:v<st.vs.length):NmOK (st.setV i s v):=λb hb=>by
 have y:b∈st.names.set i _:=hb
 rcases List.mem_or_eq_of_mem_set y with c|c
 ·exact h b c
 ·subst c;exact aM
theorem Ih(M W):LcR M W none 0 []:=⟨rfl,λh=>by omega⟩
theorem TrIn.later{W bC bn u}(h:TrIn W P I u1 u2 u3 u4 bs st bC bn u g off m cap ts){W' ba bc z aa Q N}(X:WS W' P I ba bc z aa Q N)(H:Gd N)(bJ:NmOK N)(k:Mv (Mst P u1 u2 u3 u4) W (Mst P ba bc z aa) W')(i)(hi:i<m)(us)(aI:us=ts.drop i):TrIn W' P I ba bc z aa Q N none 0 [] g (off+i*3) (m-i) (cap-i) us where
 ws:=X
 gd:=H
 nm:=bJ
 lc:=Ih _ _
 ln:=Nat.zero_le _
 lo:=λb hb=>by cases hb
 tk:=(h.tk.keepC k.chg h.tg).in_ i m us (by rw[aI,yao (by rw[List.length_drop,h.tk.len];exact yad)]) yad
 tg:=λc=>(k.new g c).elim h.tg (λc=>hO h.tk.lt)
 m5:=hO h.m5
 mc:=hO h.mc
 ti:=λt ht=>h.ti t (by grind)
 tn:=λt ht=>h.tn t (by grind)
theorem Ii{W i}(H:TrIn W P I u1 u2 u3 u4 bs st none 0 [] g off m cap (k::i::n::q::ts))(O:k.sym=JK)(hi:i.sym=iE)(F:Pr 2 [e] ts)(h:iO f st (.rep i n e)=some r):
  Calls prog 62 #[hD P,.slice (some ⟨g,off,none⟩) m cap] W (StO W P I u1 u2 u3 u4 r):=by
 have aw:=H.tk.len;simp only[yap]at aw;have ah:=jl F;have bM:=H.mc;have bo:=H.m5;have a0:bs.length<=100000:=by rw[H.ws.nl];have:=H.gd.m;omega
 have c0:=H.tk.c0 0 xaa;have bC:=H.tk.c0 1 xaa;have cA:=H.tk.c1 1 xaa;have ck:=H.tk.c2 1 xaa;have Y:=H.tk.c1 2 xaa;have ab:=H.tk.c2 2 xaa;rw[show(k::i::n::q::ts).getD 0 _=k from rfl]at c0;rw[show(k::i::n::q::ts).getD 1 _=i from rfl]at bC cA ck;rw[show(k::i::n::q::ts).getD 2 _=n from rfl]at Y ab;rw[O]at c0;rw[show JK=[114,101,112,101,97,116] from rfl]at c0;have aY:=H.ti i xac hi;have bU:V _:=λW'=>yR i aY W';have bk:=pN aY yad;rw[yao yad]at bk;have bl:V _:=H;have cc:=jz F (λt ht=>H.ti t (by simp[ht])) e xac;have bA:V _:=F;have ai:V _:=cc;have aF:V _:=ro H.ws.c3 H.ws.r4 a0 n.text;have z:=H.ws.c3;have B:V _:=mr H.ws.r4;have bT:V (∀W',Kept 0 0 W W'->∀c p,_):=λW' al c p=>jI (H.ws.keep al).c5 (H.ws.keep al).c6 (H.ws.keep al).fr c p (Mst P u1 u2 u3 u4) (.inl rfl);have aL:V (∀W',Kept 0 0 W W'->_):=λW' al=>(al.cell (p:=⟨g,off+3+1,_⟩) H.tk.lt xaa).trans cA;obtain⟨a4,cj,aX⟩:=jJ H.ws.r4;simp only[Nat.zero_mul,Nat.add_zero,Nat.one_mul]at c0 bC cA ck Y ab;simp only[iO]at h;have HR:V _:=h;clear h H F cc aY hi O;obtain⟨bE,bv,bF⟩:=i;obtain⟨bR,Z,u⟩:=n;unfold i7 at bU;simp only at*;subst aX;generalize bz:iC _=K at*;clear bz;go_enter func62,ntmps62;go_upto_region 9 with (go_at_call 104;refine yai aF.o ?_;rintro e ag ⟨aO,rfl,bx,X⟩;obtain rfl:=X.symm);clear aF;rcases bx with⟨an,bZ,rfl,G,b5⟩|⟨rfl,hn⟩
 ·have bH:V _:=oB bl.o.ws bZ G b5;have l:V _:=bl.o.ws.nb _ bZ;have bc:V (Kf _ u=an):=Om (hS bl.o.ws.nl bZ) (by rw[<-ve (bl.o.ws.nb _ bZ)];exact G) (λj hj=>by rw[<-ve (bl.o.ws.nb j xaa)];exact b5 j hj);obtain⟨bi,b0,e4,_,_,_,bm⟩:=B.o xaa;cases e4;obtain⟨_,d1,_,_,_⟩:=bm _ bZ;have aK:¬((an:Int)<0):=xaa;have HD:V _:=(show st.names.getD _ (.val [] 0)=st.names.getD an _ from rfl)
  generalize f6:st.names.getD an _=aD at bH l;have cC:V _:=f6;clear f6 HD;generalize ad:bs.getD an _=b at d1 l;clear ad;have bN:V _:=bZ;cases aD with
  |fn bJ aT aj=>
   have U:=l.o.2.1;rw[U]at d1
   have bP:V (r=.error (3,Z)):=by
    have h:=HR.o;rw[bH.o]at h;exact(hJ h).symm
   have bp:V _:=bT.o W (Kept.refl 0 0 W) 3 Z;clear G b5 bm l B bT;generalize bs.length=nn at*;go_wp2_with (go_at_call 102;refine yai bp.o ?_;rintro e a8 ⟨rfl,aI⟩);refine yay (v:=.tuple #[]) (by simp[results,results62,go_sem]) rfl ?_;rw[bP.o];exact⟨rfl,aI.c5,aI.c6,aI.chg⟩
  |val bJ av=>
   have U:=l.o.2.1
   have cQ:V (bJ=u):=by
    have:=ve (bl.o.ws.nb _ bZ);rw[cC.o]at this;exact this.symm.trans G
   rw[U]at d1;clear G b5 bm l B;have aP:=bZ;generalize bd:bs.length=nn at z bZ a0;go_upto_region 12 with (go_at_call 105;refine yai (bU.o _) ?_;rintro e a8 ⟨rfl,aJ⟩);have bX:V _:=aJ;clear aJ c0 bC cA ck Y ab d1 z bU;by_cases ar:100<K
   ·have bP:V (r=.error (5,bv)):=by
     have h:=HR.o;rw[bH.o]at h;simp only[hI ar]at h;exact(hJ h).symm
    have bw:V _:=bT.o _ bX.o 5 bv;have cA:=aL.o _ bX.o;clear bT aL;go_wp2_with (go_at_call 102;refine yai bw.o ?_;rintro e bj ⟨rfl,aI⟩);refine yay (v:=.tuple #[]) (by simp[results,results62,go_sem]) rfl ?_;rw[bP.o];exact⟨rfl,aI.c5,aI.c6,(Mv.of bX.o).bad aI.chg⟩
   obtain⟨bK,rfl⟩:∃bK:Nat,K=bK:=⟨K.toNat,by omega⟩
   have bP:V (nT f e an u bK st=some r):=by
    have h:=HR.o;rw[bH.o]at h;simp only[hG ar]at h;rw[bc.o,Int.toNat_natCast]at h;exact h
   have N:V (st.names.getD an (.val [] 0)=.val u av):=by show _=_;rw[cC.o,cQ.o]
   have bf:V (∀W' Q aS bb bq bD s,WS _ P I aS _ _ _ Q s->Gd s->NmOK s->Mv _ W _ W'->∀az,eP f s _ e=some _->RsG s _/\Calls _ _ _ _ _):=λW' Q aS bb bq bD s X aQ ae C az aU=>⟨gF f s _ e aQ ae (λb hb=>by cases hb) ai.o _ aU,trc f _ P I _ bb bq bD _ s _ 0 0 _ g _ _ _ _ (bl.o.later X aQ ae C 4 xaa _ rfl) 2 e bA.o yad az aU⟩
   have aZ:V _:=bl.o.ws.keep bX.o;have a9:V _:=bl.o.gd;have be:V _:=bl.o.nm;clear HR bc bH cC bT aL cQ bA ai bl;go_wp2_with fail;go_loopw [8] (λnv W'=>∃(j:Nat) (s:LSt) (Q:List Bc) (aS bb bq bD:Value) (a7:Nat),j<=bK/\nv=hF j/\V (WS W' P I aS bb bq bD Q s)/\V (Mv (Mst P u1 u2 u3 (hE bi bs.length cj)) W (Mst P aS bb bq bD) W')/\V (nT f e an u (bK-j) s=some r)/\V (Gd s)/\V (NmOK s)/\V (Q.length=bs.length)/\V (s.names.getD an (.val [] 0)=.val u a7)) (λnv _=>bK-(intOf nv).toNat)
   case atStart=>exact⟨0,_,_,_,_,_,_,_,Nat.zero_le _,rfl,aZ,(show V _ from Mv.of bX.o),bP,a9,be,(show V _ from rfl),N⟩
   case round=>
    obtain⟨j,s,Q,aS,bb,bq,bD,a7,hj,rfl,aN,ay,aA,bu,aH,af,bn⟩:=hrel;clear bP N aZ a9 be;by_cases aB:j<bK
    ·cases x:eP f s [] e with
     |none=>
      exfalso;have h:=aA.o;rw[show bK-j=(bK-j-1)+1 by omega,nT,x]at h;cases h
     |some az=>
      obtain⟨ak,bg⟩:=bf.o _ _ _ _ _ _ s aN.o bu.o aH.o ay.o _ x;have ao:V _:=ak;have am:V _:=bg;have aa:V _:=aA.o;rw[show bK-j=(bK-j-1)+1 by omega,nT,x]at aa;clear ak bg x aA;rcases az with⟨c,p⟩|⟨aq,v⟩
      ·have bP:V _:=(hJ aa.o).symm;go_wp2_with (go_at_call 103;refine yai am.o ?_;rintro e bj ⟨rfl,bh⟩);refine yay (v:=.tuple #[]) (by simp[results,results62,go_sem]) rfl ?_;rw[bP.o];exact⟨rfl,bh.1,bh.2.1,ay.o.bad bh.2.2⟩
      obtain⟨aG,aM⟩:=ao.o _ v rfl;have cH:¬((v:Int)<0):=xaa;have au:V (aq.names.getD an (.val [] 0)=.val u a7):=by show _=_;rw[aG.m];exact bn.o
      have cB:V _:=K2 aG.g an u v;have S:V _:=K3 (NmOK.gw aH.o aG) an u aM;have w:V (nT f e an u (bK-(j+1)) (aq.setV an u v)=some r):=by show _=_;rw[show bK-(j+1)=bK-j-1 by omega];exact aa.o
      go_upto_region 19 with (go_at_call 103;refine yai am.o ?_;rintro e bj ⟨rfl,aR,aV,bY,ce,ax,a6⟩);obtain⟨ei,br,bW,aW,cy,a2,R⟩:=ax.setv (v:=v) (hR af.o aP) au.o;have b3:=ax.c3;rw[bW,af.o,bd]at b3;have ap:=(mr ax.r4 (hT af.o))
      obtain⟨b4,bB,J,_,_,_,bm⟩:=ap;have aC:=(bm _ (hR af.o aP)).2.2.1;rw[bW]at J;cases J;have o:V _:=a2;have a5:V _:=(ay.o.trans a6).trans R;have y:V ((Q.set an {Q.getD an hM with val:=v}).length=bs.length):=by show _=_;rw[List.length_set];exact af.o
      have ba:V ((aq.setV an u v).names.getD an (.val [] 0)=.val u v):=by
       show(aq.names.set an _).getD an _=_;rw[rF _ _ _ _ (by rw[<-ax.nl,af.o];exact aP)]
      clear bm a2 R ax a6 ay aN am ao aa bu aH bn aG aW;go_wp2_with fail;go_roundw;exact⟨j+1,aq.setV an u v,_,aR,aV,bY,ce,v,by omega,by go_num,o,a5,w,cB,S,y,ba⟩;simp[intOf];omega
    obtain rfl:j=bK:=xaa
    have bP:V (r=.ok s):=by
     have h:=aA.o;rw[Nat.sub_self,nT]at h;exact(hJ h).symm
    clear aA bf;go_wp2_with fail;refine yay (v:=.tuple #[]) (by simp[results,results62,go_sem]) rfl ?_;rw[bP.o];exact⟨rfl,_,_,_,_,_,aN.o,ay.o⟩
 have bP:V (r=.error (3,Z)):=by
  have h:=HR.o;rw[pd bl.o.ws hn]at h;exact(hJ h).symm
 have bp:V _:=bT.o W (Kept.refl 0 0 W) 3 Z;clear hn B bT z;go_wp2_with (go_at_call 102;refine yai bp.o ?_;rintro e a8 ⟨rfl,aI⟩);refine yay (v:=.tuple #[]) (by simp[results,results62,go_sem]) rfl ?_;rw[bP.o];exact⟨rfl,aI.c5,aI.c6,aI.chg⟩
theorem On:(prog.info? 128).map (λi=>(i.zero,i.size,i.bytes))=some (some (.agg #[.string ⟨#[]⟩,.bool false,hF 0,.slice none 0 0,.slice none 0 0]),5,80):=by kernel_rfl
theorem nJ:∃bC,prog.info? 128=some bC/\bC.zero=some (.agg #[.string ⟨#[]⟩,.bool false,hF 0,.slice none 0 0,.slice none 0 0])/\bC.size=5/\bC.bytes=80:=by
 have h:=On;simp_all
theorem Ij(w:World)(b:Bc)(m):∀j u,b.cells[j]? =some u->((w.alloc (.cells #[eO b.nm,.bool b.fn,hF b.val,.slice b.pa b.pn b.pc,.slice b.ba b.bn b.bc] 128)).drewN m).cell? ((⟨w.heap.size,0,none⟩:Addr).add j)=some u:=λj u aI=>
 World.news_of_block (w:=w.alloc (.cells #[eO b.nm,.bool b.fn,hF b.val,.slice b.pa b.pn b.pc,.slice b.ba b.bn b.bc] 128)) (t:=128) (fr:=(0,0)) (cs:=#[eO b.nm,.bool b.fn,hF b.val,.slice b.pa b.pn b.pc,.slice b.ba b.bn b.bc]) (yi _ _) j u aI
theorem Oo(b:Bc):∀u∈b.cells,u.oneCell'=true:=λu aI=>by
 simp only[Bc.cells,List.mem_cons,List.not_mem_nil,or_false]at aI
 rcases aI with rfl|rfl|rfl|rfl|rfl<;>rfl
theorem pU{W}(h:WS W P I u1 u2 u3 u4 bs st)(ah:bs.length<=100000)(a9:iX st.names s=none):Calls prog 104 #[hD P,eO s] W λe W'=>e=.returned (hF (-1))/\W'=W:=
 yai (ro h.c3 h.r4 ah s) (λe W' ⟨r,af,bx,X⟩=>by
  rcases bx with⟨an,bZ,rfl,G,b5⟩|⟨rfl,hn⟩
  ·rw[oB h bZ G b5]at a9;cases a9
  grind)
theorem pV{W}(h:WS W P I u1 u2 u3 u4 bs st)(ah:bs.length<=100000){d}(a9:iX st.names s=some d):Calls prog 104 #[hD P,eO s] W λe W'=>∃k:Nat,e=.returned (hF k)/\W'=W:=
 yai (ro h.c3 h.r4 ah s) (λe W' ⟨r,af,bx,X⟩=>by
  rcases bx with⟨an,bZ,rfl,G,b5⟩|⟨rfl,hn⟩<;>grind[pd])
theorem tZ{r d}(h:iX st.names n.text=some d):pt st n r=some (.error (3,n.pos)):=by unfold pt;rw[h]
theorem ud{r}(h:iX st.names n.text=none):pt st n r=r:=by unfold pt;rw[h]
theorem dO.qep(h:Zp:=by
 clear b2 Y ab;cases ad:iX st.names u with
 |some d=>
  exact qam
 |none=>
  exact qgq):Zp:=h
theorem dO.qgp(h:Zp:=by
 rw[show(k::n::q::ts).getD 0 _=k from rfl]at c0;rw[show(k::n::q::ts).getD 1 _=n from rfl]at b2 Y ab;rw[O,show JI=[108,101,116] from rfl]at c0;exact qht):Zp:=h
theorem dO.qgr(h:Zp:=by
 have bP:V ((eP f st [] e).map (qK u)=some r):=by
  have h:=HR.o;rw[ud HFn.o]at h;exact h
 cases x:eP f st [] e with
 |none=>exfalso;have h:=bP.o;grind
 |some az=>
  have J:V (r=qK u az):=by
   have h:=bP.o;rw[x]at h;exact(hJ h).symm
  have ak:=gF f _ _ e bl.o.gd bl.o.nm (λb hb=>by cases hb) ai.o _ x;have ao:V _:=ak;have am:V _:=trc f _ P I _ _ _ _ _ _ _ 0 0 _ g _ _ _ _ (bl.o.later a9.o bl.o.gd bl.o.nm (Mv.of HK.o) 3 xaa _ rfl) 2 e bA.o yad _ x;clear ak x bP HR HFn bA ai;rcases az with⟨c,p⟩|⟨s,v⟩
  ·go_wp2_with (go_at_call 103;refine yai am.o ?_;rintro e a8 ⟨rfl,bh⟩);refine yay (v:=.tuple #[]) (by simp[results,results62,go_sem]) rfl ?_;rw[J.o];exact⟨rfl,bh.1,bh.2.1,(Mv.of HK.o).bad bh.2.2⟩
  obtain⟨w,aM⟩:=ao.o s v rfl;have cH:(0:Int)<=v:=xaa;have b0:=w.g;have cr:V (r=.ok _):=J.o;go_upto_region 49 with (go_at_call 103;refine yai am.o ?_;rintro e aj ⟨rfl,ba,bc,z,aa,C,G⟩);have cp:V _:=(Mv.of HK.o).trans G;have cn:V _:=aH.o.keepC G.chg aV.o;have ca:¬Mst P _ _ _ _ _:=λc=>(G.new _ c).elim aV.o (λc=>hO aH.o.lt);clear am ao J G bl a9 N aD aH w;obtain⟨bC,bb,bn,bQ,br⟩:=nJ;have b3:=C.c3;have cy:=C.fr 3;have aS:=C.lt;have ce:I<=aj.heap.size:=hO C.sz
  obtain⟨a4,cj,e4⟩:=jJ C.r4;have aR:V (aa.ownBlock≠some P/\aa.ownBlock≠some _):=⟨C.np.2.2.2,λc=>ca (.inr (.inr (.inr (.inr c))))⟩
  exact qib):Zp:=h
theorem dO.qhu(h:Zp:=by
 have bA:V _:=F;have ai:V _:=cc;clear h H F cc O;exact qil):Zp:=h
theorem dO.qic(h:Zp:=by
 go_upto_region 50 with fail
 go_region_law
  ((refine step_append_lies _ rfl _ _ _ rfl I 128 _ _ 5 _ underlying93 bb bn bQ br rfl xab _ _ _ (by simp[Act.eval]) (lX aU.o 1 _) _ 1 1 (Bc.cells ⟨_,_,_,_,0,0,_,0,0⟩) (by simp[Act.eval]) rfl (Ij _ _ _) (Oo _) xab (by unfold maxLen;omega) xaa yaf _ rfl ?_;intro g9 cap9 be bv a6 b9 ck;have aW:=lF a6 aS aR.o.1 b3;have bH:=far2 a6 aS aR.o.1 cy;have aq:=lF a6 cu aR.o.2 aX))
 all_goals
  have S:=b9.imp id (λe=>Nat.le_of_eq e.symm)
  have Q:=(ez 0 0 aj (.cells #[eO u,.bool false,hF v,.slice none 0 0,.slice none 0 0] 128)).trans (eL 0 0 _ 1)
  obtain⟨(o:V _),R⟩:=(bx.o.keep Q).nms_ (d:=.val u v) (n9:=bK+1) (gX a6) (by rw[yak,bw.o];rfl) (by rw[xr,xu];exact bv) S (λ_=>⟨rfl,rfl,rfl⟩)
  have a5:V _:=(cp.o.keep Q).trans R
  clear R S Q bv a6 b9 ck aW bH aq
  go_wp2_with fail
  refine yay (v:=.tuple #[]) (by simp[results,results62,go_sem]) rfl ?_
  rw[cr.o]
  exact⟨rfl,_,_,_,_,_,o.o,a5.o⟩):Zp:=h
open dO in
theorem Ik{W}(H:TrIn W P I u1 u2 u3 u4 bs st none 0 [] g off m cap (k::n::q::ts))(O:k.sym=JI)(F:Pr 2 [e] ts)(h:iO f st (.letS n e)=some r):
  Calls prog 62 #[hD P,.slice (some ⟨g,off,none⟩) m cap] W (StO W P I u1 u2 u3 u4 r):=by
 have ah:=jl F;have cc:=jz F (λt ht=>H.ti t (by simp[ht])) e xac;have aw:=H.tk.len;simp only[yap]at aw;exact qgo
theorem dP.qep(h:Zp:=by
 clear b2 Y ab;cases ad:iX st.names u with
 |some d=>
  exact qam
 |none=>
  exact qgq):Zp:=h
theorem dP.qgp(h:Zp:=by
 rw[show([k,n,c,l]).getD 0 _=k from rfl]at c0;rw[show([k,n,c,l]).getD 1 _=n from rfl]at b2 Y ab;rw[O,show kIn=[105,110] from rfl]at c0;exact qht):Zp:=h
theorem dP.qgr(h:Zp:=by
 obtain⟨bN,bJ,b5⟩:=ae.o _ HK.o
 have bP:V (r=inR st ⟨bR,Z,u⟩ ⟨bu,F,bz⟩):=by
  have h:=HR.o;rw[ud HFn.o]at h;exact(hJ h).symm
 clear HR HFn;go_upto_region 43 with (go_at_call 105;refine yai (bU.o _) ?_;rintro e a8 ⟨rfl,aJ⟩);have bX:V _:=HK.o.trans aJ;have ch:V _:=aH.o.keep aJ;have aZ:V _:=a9.o.keep aJ;obtain⟨_,bJ,_⟩:=ae.o _ bX.o;have N:=ch.o.c1;have aC:V _:=aV.o;clear aJ bU a9 HK bN b5 aD c0
 have p:V (r=if K<1\/1000<K then .error (4,F)else if 20<=st.ins.length then .error (5,Z)else qK u (gh {st with ins:=st.ins++[K]} (eK 0 K (st.ins.length:Int) 0 0) Z)):=by
  show _=_;rw[bP.o];unfold inR;simp only;rw[cd.o]
 clear bP cd;have au:V _:=λbT az=>jI aZ.o.c5 aZ.o.c6 aZ.o.fr bT az (Mst P u1 u2 u3 u4) (.inl rfl);by_cases B:K<1
 ·have bg:V (r=.error (4,F)):=by show _=_;rw[p.o,hI (.inl B)]
  have ai:V _:=au.o 4 F;clear p au aZ;go_wp2_with (go_at_call 102;refine yai ai.o ?_;rintro e bj ⟨rfl,aI⟩);refine yay (v:=.tuple #[]) (by simp[results,results62,go_sem]) rfl ?_;rw[bg.o];exact⟨rfl,aI.c5,aI.c6,(Mv.of bX.o).bad aI.chg⟩
 by_cases U:1000<K
 ·have bg:V (r=.error (4,F)):=by show _=_;rw[p.o,hI (.inr U)]
  have ai:V _:=au.o 4 F;clear p au aZ;go_wp2_with (go_at_call 102;refine yai ai.o ?_;rintro e bj ⟨rfl,aI⟩);refine yay (v:=.tuple #[]) (by simp[results,results62,go_sem]) rfl ?_;rw[bg.o];exact⟨rfl,aI.c5,aI.c6,(Mv.of bX.o).bad aI.chg⟩
 obtain⟨a1,bL,af⟩:=jr aZ.o.r1;have bi:=aZ.o.c0;by_cases h3:20<=st.ins.length
 ·have bg:V (r=.error (5,Z)):=by show _=_;rw[p.o,hG xaa,hI h3]
  have ai:V _:=au.o 5 Z;have b4:(20:Int)<=st.ins.length:=xaa;rw[af]at bi;clear p au aZ bJ;generalize st.ins.length=ni at*;go_wp2_with (go_at_call 102;refine yai ai.o ?_;rintro e bj ⟨rfl,aI⟩);refine yay (v:=.tuple #[]) (by simp[results,results62,go_sem]) rfl ?_;rw[bg.o];exact⟨rfl,aI.c5,aI.c6,(Mv.of bX.o).bad aI.chg⟩
 have av:V (r=qK u (gh {st with ins:=st.ins++[K]} (eK 0 K (st.ins.length:Int) 0 0) Z)):=by show _=_;rw[p.o,hG xaa,hG h3]
 have ar:1<=K/\K<=1000:=xaa;have ao:V _:=LD bl.o.gd K xaa;have cl:V _:=λcw v (e:gh _ _ Z=.ok (cw,v))=>oE ao.o (LE bl.o.gd ar) e;have b7:(a8.alloc (.cells #[hF K] 3)).cell? ⟨a8.heap.size,0,none⟩=some (hF K):=by rw[yau];rfl
 have bE:=ez 0 0 a8 (.cells #[hF K] 3);have i:V _:=aZ.o.keep bE;have y:V _:=bX.o.trans bE;have cz:V _:=ch.o.keep bE;have aQ:V (I<=a8.heap.size):=by show _<=_;have:=aZ.o.sz;have:=aZ.o.lt;omega
 have b4:¬(20:Int)<=st.ins.length:=xaa;have aN:V (st.ins.length<20):=by show _<_;omega
 clear p au aZ bJ ch bE N;subst af;go_upto_region 47 with fail;go_wp2_with (first|(at_builtin;refine fQ _ rfl _ _ rfl I _ _ (by rfl) i.o.r1 _ K (by rfl) b7 ?c2 ?c3 ?_)|fail)
 case c2=>have:=aN.o;omega
 case c3=>have:=aQ.o;simp;omega
 intro g9 cap9 n9 be bO b1 bV b6;obtain⟨a2,R⟩:=i.o.ins_ (n9:=n9) (zs:=st.ins++[K]) bV (by rw[bO];simp) (by rw[List.map_append];exact b1) (b6.imp id (λe=>by rw[e];simp));have aB:=i.o.lt;have bd:=(bV.cell aB i.o.np.1).trans i.o.c0;have aL:=(bV.frozen aB i.o.np.1).trans (i.o.fr 0);have bm:n9=st.ins.length+1:=by rw[bO]
 subst bm;have o:V _:=a2;have ap:V _:=(Mv.of y.o).trans R;have w:V _:=cz.o.keepC R.chg aC.o;have cS:V (¬Mst P _ _ _ _ _):=λc=>(R.new _ c).elim aC.o (λc=>hO cz.o.lt);clear a2 R bV b1 b6 bO b7 i y;go_upto_region 48 with fail;clear bd aL aB;generalize be.setCell ⟨P,0,_⟩ _=bF at o ap w⊢;clear cz ae ax bl aH bi
 have ak:V (∀W' (bq:Int),bq=(st.ins.length:Int)->Kept 0 0 bF W'->Calls prog 106 #[hD P,(eK 0 K bq 0 0).agg,hF Z] W' λe aA=>V (TrO bF P I (hE g9 (st.ins.length+1) cap9) u2 u3 u4 bs (gh {st with ins:=st.ins++[K]} (eK 0 K (st.ins.length:Int) 0 0) Z) e aA)/\(∃x:Int,e=.returned (hF x))/\aA.cell? ⟨bI,1,none⟩=some (hF Z)/\aA.cell? ⟨P,0,none⟩=some (hE g9 (st.ins.length+1) cap9)):=λW' bq aP al=>by
  subst aP
  exact yai (NJ (o.o.keep al) ao.o (eK 0 K (st.ins.length:Int) 0 0) ar yag Z) (λe aA t=>⟨TrO.back al t.1,t.1.ret,(t.1.chg.cell (p:=⟨bI,1,none⟩) (w.o.keep al).lt cS.o).trans (w.o.keep al).c1,t.2⟩)
 have am:V (∀W',Kept 0 0 _ W'->W'.cell? _=some _/\W'.cell? _=some _):=λW' al=>⟨(w.o.keep al).c1,(o.o.keep al).c0⟩
 generalize gh _ _ _=ej at ak cl av;obtain⟨aO,bf⟩:=am.o _ hN;have bA:V _:=o.o.nl;clear o ao;generalize st.ins.length=ni at*;rcases ej with⟨bT,az⟩|⟨s,v⟩
 ·have bg:V (r=.error _):=av.o
  go_region_held3 (λJ=>J.cell? ⟨bI,1,none⟩=some (hF Z)/\J.cell? ⟨P,0,none⟩=some (hE g9 (ni+1) cap9)) (go_keep)
   (first
    |(go_at_call 39;refine yai (gS _ _ _ _ _ _) ?_;rintro e cg ⟨rfl,cb⟩;obtain⟨aK,a7⟩:=am.o _ ((eG _).trans cb))
    |(go_at_call 106;refine yai (ak.o _ _ (by rw[IntKind.wrap_i64];omega) ((eG _).trans cb)) ?_;rintro e cf ⟨bh,⟨_,_⟩,bG,bZ⟩;obtain rfl:=bh.o.1))
  all_goals (
   go_wp2_with fail
   refine yay (v:=.tuple #[]) (by simp[results,results62,go_sem]) rfl ?_
   rw[bg.o]
   exact⟨rfl,bh.o.2.1,bh.o.2.2.1,ap.o.bad bh.o.2.2.2⟩)
 obtain⟨bj,aM,_⟩:=cl.o s v rfl;have cH:(0:Int)<=v:=xaa;have b0:=bj.g;have cr:V (r=.ok _):=av.o;clear cl av bj
 go_region_held3 (λJ=>J.cell? ⟨bI,1,none⟩=some (hF Z)/\J.cell? ⟨P,0,none⟩=some (hE g9 (ni+1) cap9)) (go_keep)
  (first
   |(go_at_call 39;refine yai (gS _ _ _ _ _ _) ?_;rintro e cg ⟨rfl,cb⟩;obtain⟨aK,a7⟩:=am.o _ ((eG _).trans cb))
   |(go_at_call 106;refine yai (ak.o _ _ (by rw[IntKind.wrap_i64];omega) ((eG _).trans cb)) ?_;rintro e aj ⟨bh,⟨_,_⟩,bG,bZ⟩;obtain rfl:=bh.o.1))
 all_goals (
  obtain⟨_,ba,bc,z,aa,C,G⟩:=bh.o
  have cp:V _:=ap.o.trans G
  have cn:V _:=w.o.keepC G.chg cS.o
  have ca:¬Mst P _ _ _ _ _:=λc=>(G.new _ c).elim cS.o (λc=>hO w.o.lt)
  clear bh G ak am ap w cS bf aO a7 aK cb bG bZ
  go_upto_region 50 with fail
  obtain⟨bC,bb,bn,bQ,br⟩:=nJ
  have b3:=C.c3
  have cy:=C.fr 3
  have aS:=C.lt
  have ce:I<=aj.heap.size:=hO C.sz
  obtain⟨a4,cj,e4⟩:=jJ C.r4
  have aR:V (aa.ownBlock≠some P/\aa.ownBlock≠some _):=⟨C.np.2.2.2,λc=>ca (.inr (.inr (.inr (.inr c))))⟩
  have cu:=cn.o.lt
  have aX:=cn.o.c2
  have aU:V _:=C.r4
  have bx:V _:=C
  have cN:bs.length<=5000:=hR C.nl b0.m
  clear C
  subst e4
  generalize bB:bs.length=bK at*
  have bw:V _:=bB
  clear bB
  go_region_law
   ((refine step_append_lies _ rfl _ _ _ rfl I 128 _ _ 5 _ underlying93 bb bn bQ br rfl xab _ _ _ (by simp[Act.eval]) (lX aU.o 1 _) _ 1 1 (Bc.cells ⟨_,_,_,_,0,0,_,0,0⟩) (by simp[Act.eval]) rfl (Ij _ _ _) (Oo _) xab (by unfold maxLen;omega) xaa yaf _ rfl ?_;intro g9 cap9 be bv a6 b9 ck;have aW:=lF a6 aS aR.o.1 b3;have bH:=far2 a6 aS aR.o.1 cy;have aq:=lF a6 cu aR.o.2 aX))
  all_goals
   have S:=b9.imp id (λe=>Nat.le_of_eq e.symm)
   have Q:=(ez 0 0 aj (.cells #[eO u,.bool false,hF v,.slice none 0 0,.slice none 0 0] 128)).trans (eL 0 0 _ 1)
   obtain⟨(o:V _),R⟩:=(bx.o.keep Q).nms_ (d:=.val u v) (n9:=bK+1) (gX a6) (by rw[yak,bw.o];rfl) (by rw[xr,xu];exact bv) S (λ_=>⟨rfl,rfl,rfl⟩)
   have a5:V _:=(cp.o.keep Q).trans R
   clear R S Q bv a6 b9 ck aW bH aq
   go_wp2_with fail
   refine yay (v:=.tuple #[]) (by simp[results,results62,go_sem]) rfl ?_
   rw[cr.o]
   exact⟨rfl,_,_,_,_,_,o.o,a5.o⟩)):Zp:=h
theorem dP.qhu(h:Zp:=by
 have bN:=H.tk.c0 3 xaa;have bJ:=H.tk.c1 3 xaa;have b5:=H.tk.c2 3 xaa;rw[show([k,⟨_,_,_⟩,c,l]:List _).getD 3 _=l from rfl]at bN bJ b5;have bU:V _:=λW'=>yR l aY W';have ax:=H.tk.lt;have bk:=pN aY yad;rw[yao yad]at bk;obtain⟨bu,F,bz⟩:=l;unfold i7 at bU;simp only at*;have c6:4<=m:=xaa;clear h H O ah aY aw;generalize aG:iC _=K at*;have cd:V _:=aG;clear aG;have ae:V (∀W',Kept 0 0 W W'->W'.cell? _=some _/\W'.cell? _=some _/\W'.cell? _=some _):=λW' al=>⟨(al.cell ax xaa).trans bN,(al.cell ax xaa).trans bJ,(al.cell ax xaa).trans b5⟩
 clear bN bJ b5;exact qil):Zp:=h
open dP in
theorem K4{W c l}(H:TrIn W P I u1 u2 u3 u4 bs st none 0 [] g off m cap [k,n,c,l])(O:k.sym=kIn)(ah:l.sym=iE)(h:iO f st (.inS n l)=some r):
  Calls prog 62 #[hD P,.slice (some ⟨g,off,none⟩) m cap] W (StO W P I u1 u2 u3 u4 r):=by
 have aY:=H.ti l xac ah;have aw:=H.tk.len;simp only[yap,List.length_nil]at aw;exact qgo
def PPz(ps us:List Tok):Prop:=(ps=[]/\us=[])\/PPm ps us
def noC(us:List Tok):List Tok:=us.filter λt=>!(t.sym==[44])
theorem xR(a b):noC (a++b)=noC a++noC b:=by unfold noC;grind
theorem K5(h:PPm aT us):noC us=aT:=by
 induction h with
 |one h=>
  unfold noC;rw[List.filter_cons_of_pos (by rw[h];decide)];rfl
 |more _ ak ht al=>
  rename_i aT ts c t _;rw[xR,al];unfold noC;rw[List.filter_cons_of_neg (by grind),List.filter_cons_of_pos (by rw[ht];decide)];rfl
theorem K6(h:PPz aT us):noC us=aT:=by
 rcases h with⟨rfl,rfl⟩|h
 ·rfl
 exact K5 h
theorem K7(h:PPz aT us):∀t∈us,(t.sym==[41])=false:=by
 rcases h with⟨rfl,rfl⟩|h
 ·grind
 intro t ht;rcases FZ h t ht with c|c<;>(rw[c];decide)
theorem Il(B p r):Gz B (p::r)=if B.any (λq=>q.text==p.text)=true then some p.pos else Gz (B++[p]) r:=rfl
def oL(us:List Tok)(j:Nat):Option Nat:=Gz (noC (us.take j)) (noC (us.drop j))
theorem Im(h:j<us.length):us.take (j+1)=us.take j++[us.getD j hL]/\us.drop j=us.getD j hL::us.drop (j+1):=by
 simp_all
theorem vE{t}(h:(t.sym==[44])=true):noC [t]=[]:=by grind[noC]
theorem Bd(h:j<us.length)(c:((us.getD j hL).sym==[44])=true):noC (us.take (j+1))=noC (us.take j)/\oL us (j+1)=oL us j:=by
 obtain⟨af,a0⟩:=Im h
 have aj:noC (us.drop j)=noC (us.drop (j+1)):=by
  rw[a0,<-List.singleton_append,xR,vE c,List.nil_append]
 have e4:noC (us.take (j+1))=noC (us.take j):=by rw[af,xR,vE c,List.append_nil]
 refine⟨e4,?_⟩;unfold oL;rw[e4,aj]
theorem In(h:j<us.length)(c:((us.getD j hL).sym==[44])=false):noC (us.take (j+1))=noC (us.take j)++[us.getD j hL]/\((noC (us.take j)).any (λq=>q.text==(us.getD j hL).text)=true->oL us j=some (us.getD j hL).pos)/\((noC (us.take j)).any (λq=>q.text==(us.getD j hL).text)=false->oL us (j+1)=oL us j):=by
 grind[Im,noC,oL,Il]
