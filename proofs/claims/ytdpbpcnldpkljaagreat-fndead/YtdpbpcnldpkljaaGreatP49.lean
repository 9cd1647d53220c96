import Derived.Test.YtdpbpcnldpkljaaGreatP48
import Derived.Test.YtdpbpcnldpkljaaGreatP34
namespace Go.Proofs.Z
open Tryz Go.RowKit Flt
set_option maxRecDepth 1000000
set_option maxHeartbeats 0
section
variable {α:Type}{w9:World}{P B g9 n9 cap9:Nat}{u1 u2 u3 u4:Value}{bs:List Bc}{st:LSt}{zs:List Int}
theorem md (a b:List α)(z:α)(i:Nat)(h:i<a.length):(a++b).getD i z=a.getD i z:=by
 exact xik
theorem re (a:List α)(x z:α):(a++[x]).getD a.length z=x:=by
 exact xdn
theorem oc (a:List α)(x z:α)(i:Nat)(h:i<a.length):(a.set i x).getD i z=x:=by
 rw[yah,List.getElem?_set_self h];rfl
theorem pZ (a:List α)(x z:α)(i j:Nat)(h:i≠j):(a.set i x).getD j z=a.getD j z:=by
 exact xiq
theorem WS.ins_ {W:World}(h:WS W P B u1 u2 u3 u4 bs st)(c9:Chg (λb=>u1.ownBlock=some b) W w9)(hn:n9=zs.length)(hown:w9.ownsRow B 3 1 (.slice (some ⟨g9,0,none⟩) n9 cap9) n9 (zs.map (Value.int .i64)))(hat:u1.ownBlock=some g9\/W.heap.size<=g9):
  WS (w9.setCell ⟨P,0,none⟩ (.slice (some ⟨g9,0,none⟩) n9 cap9)) P B (.slice (some ⟨g9,0,none⟩) n9 cap9) u2 u3 u4 bs {st with ins:=zs}/\Mv (Mst P u1 u2 u3 u4) W (Mst P (.slice (some ⟨g9,0,none⟩) n9 cap9) u2 u3 u4) (w9.setCell ⟨P,0,none⟩ (.slice (some ⟨g9,0,none⟩) n9 cap9)):=by
 obtain⟨p1,p2,p3,p4⟩:=h.np
 obtain⟨a12,a13,a14,a23,a24,a34⟩:=h.ap
 have ob:∀b,(Value.slice (some ⟨g9,0,none⟩) n9 cap9).ownBlock=some b↔g9=b:=λb=>by simp[Value.ownBlock]
 have gP:g9≠P:=λe=>by
  subst e
  rcases hat with c|c
  ·exact p1 c
  ·have:=h.lt;omega
 have nX:(Value.slice (some ⟨g9,0,none⟩) n9 cap9).ownBlock≠some P:=λc=>gP ((ob P).1 c)
 have ec:∀o,w9.cell? ⟨P,o,none⟩=W.cell? ⟨P,o,none⟩:=λo=>c9.cell (p:=⟨P,o,none⟩) h.lt p1
 have es:∀o,o≠0->(w9.setCell ⟨P,0,none⟩ (.slice (some ⟨g9,0,none⟩) n9 cap9)).cell? ⟨P,o,none⟩=W.cell? ⟨P,o,none⟩:=λo ho=>(eW _ _ _ _ _ _ (.inr (λe=>ho e.symm))).trans (ec o)
 have ks:=(eL (lo:=P) (hi:=P+1) w9 ⟨P,0,none⟩ (.slice (some ⟨g9,0,none⟩) n9 cap9) yac)
 have mv:Mv (Mst P u1 u2 u3 u4) W (Mst P (.slice (some ⟨g9,0,none⟩) n9 cap9) u2 u3 u4) (w9.setCell ⟨P,0,none⟩ (.slice (some ⟨g9,0,none⟩) n9 cap9)):=by
  refine⟨Chg.andThen (S:=Mst P u1 u2 u3 u4) ⟨c9.os,c9.tape,c9.output,c9.size,λi hi hn=>c9.block i hi (λc=>hn (.inr (.inl c)))⟩ (ks.chg1 (S:=Mst P u1 u2 u3 u4) (.inl rfl)),λb hb=>?_⟩
  rcases hb with c|c|c|c|c
  ·exact .inl (.inl c)
  ·rw[ob] at c
   subst c
   rcases hat with d|d
   ·exact .inl (.inr (.inl d))
   ·exact .inr d
  ·exact .inl (.inr (.inr (.inl c)))
  ·exact .inl (.inr (.inr (.inr (.inl c))))
  ·exact .inl (.inr (.inr (.inr (.inr c))))
 have ap:∀{u:Value} {e s n:Nat} {xs:List Value},W.ownsRow B e s u n xs->Apart u u1->Apart u (.slice (some ⟨g9,0,none⟩) n9 cap9):=λho ha k hk hv=>by
  exact xfa
 refine⟨⟨by simpa using yaj h.lt c9.size,λo=>?_,fR _ _ _ _ _ ((ec 0).trans h.c0),(es 1 xab).trans h.c1,(es 2 xab).trans h.c2,(es 3 xab).trans h.c3,(es 4 xab).trans h.c4,(es 5 xab).trans h.c5,(es 6 xab).trans h.c6,?_,?_,?_,?_,⟨nX,p2,p3,p4⟩,⟨(ap h.r2 a12.symm).symm,(ap h.r3 a13.symm).symm,(ap h.r4 a14.symm).symm,a23,a24,a34⟩,h.nl,λi hi=>(h.nb i hi).mv mv,h.sz⟩,mv⟩
 ·have:=(c9.frozen (p:=⟨P,o,none⟩) h.lt p1).trans (h.fr o)
  simp[this]
 ·subst hn;exact eH hown nX
 ·exact eH (fj h.r2 c9 (λb hb c=>a12 b c hb)) p2
 ·exact eH (fj h.r3 c9 (λb hb c=>a13 b c hb)) p3
 ·exact eH (fj h.r4 c9 (λb hb c=>a14 b c hb)) p4
theorem WS.outs_ {W:World}(h:WS W P B u1 u2 u3 u4 bs st)(c9:Chg (λb=>u3.ownBlock=some b) W w9)(hn:n9=zs.length)(hown:w9.ownsRow B 3 1 (.slice (some ⟨g9,0,none⟩) n9 cap9) n9 (zs.map (Value.int .i64)))(hat:u3.ownBlock=some g9\/W.heap.size<=g9):
  WS (w9.setCell ⟨P,2,none⟩ (.slice (some ⟨g9,0,none⟩) n9 cap9)) P B u1 u2 (.slice (some ⟨g9,0,none⟩) n9 cap9) u4 bs {st with outs:=zs}/\Mv (Mst P u1 u2 u3 u4) W (Mst P u1 u2 (.slice (some ⟨g9,0,none⟩) n9 cap9) u4) (w9.setCell ⟨P,2,none⟩ (.slice (some ⟨g9,0,none⟩) n9 cap9)):=by
 obtain⟨p1,p2,p3,p4⟩:=h.np
 obtain⟨a12,a13,a14,a23,a24,a34⟩:=h.ap
 have ob:∀b,(Value.slice (some ⟨g9,0,none⟩) n9 cap9).ownBlock=some b↔g9=b:=λb=>by simp[Value.ownBlock]
 have gP:g9≠P:=λe=>by
  subst e
  rcases hat with c|c
  ·exact p3 c
  ·have:=h.lt;omega
 have nX:(Value.slice (some ⟨g9,0,none⟩) n9 cap9).ownBlock≠some P:=λc=>gP ((ob P).1 c)
 have ec:∀o,w9.cell? ⟨P,o,none⟩=W.cell? ⟨P,o,none⟩:=λo=>c9.cell (p:=⟨P,o,none⟩) h.lt p3
 have es:∀o,o≠2->(w9.setCell ⟨P,2,none⟩ (.slice (some ⟨g9,0,none⟩) n9 cap9)).cell? ⟨P,o,none⟩=W.cell? ⟨P,o,none⟩:=λo ho=>(eW _ _ _ _ _ _ (.inr (λe=>ho e.symm))).trans (ec o)
 have ks:=(eL (lo:=P) (hi:=P+1) w9 ⟨P,2,none⟩ (.slice (some ⟨g9,0,none⟩) n9 cap9) yac)
 have mv:Mv (Mst P u1 u2 u3 u4) W (Mst P u1 u2 (.slice (some ⟨g9,0,none⟩) n9 cap9) u4) (w9.setCell ⟨P,2,none⟩ (.slice (some ⟨g9,0,none⟩) n9 cap9)):=by
  refine⟨Chg.andThen (S:=Mst P u1 u2 u3 u4) ⟨c9.os,c9.tape,c9.output,c9.size,λi hi hn=>c9.block i hi (λc=>hn (.inr (.inr (.inr (.inl c)))))⟩ (ks.chg1 (S:=Mst P u1 u2 u3 u4) (.inl rfl)),λb hb=>?_⟩
  rcases hb with c|c|c|c|c
  ·exact .inl (.inl c)
  ·exact .inl (.inr (.inl c))
  ·exact .inl (.inr (.inr (.inl c)))
  ·rw[ob] at c
   subst c
   rcases hat with d|d
   ·exact .inl (.inr (.inr (.inr (.inl d))))
   ·exact .inr d
  ·exact .inl (.inr (.inr (.inr (.inr c))))
 have ap:∀{u:Value} {e s n:Nat} {xs:List Value},W.ownsRow B e s u n xs->Apart u u3->Apart u (.slice (some ⟨g9,0,none⟩) n9 cap9):=λho ha k hk hv=>by
  exact xfa
 refine⟨⟨by simpa using yaj h.lt c9.size,λo=>?_,(es 0 xab).trans h.c0,(es 1 xab).trans h.c1,fR _ _ _ _ _ ((ec 2).trans h.c2),(es 3 xab).trans h.c3,(es 4 xab).trans h.c4,(es 5 xab).trans h.c5,(es 6 xab).trans h.c6,?_,?_,?_,?_,⟨p1,p2,nX,p4⟩,⟨a12,ap h.r1 a13,a14,ap h.r2 a23,a24,(ap h.r4 a34.symm).symm⟩,h.nl,λi hi=>(h.nb i hi).mv mv,h.sz⟩,mv⟩
 ·have:=(c9.frozen (p:=⟨P,o,none⟩) h.lt p3).trans (h.fr o)
  simp[this]
 ·exact eH (fj h.r1 c9 (λb hb c=>a13 b hb c)) p1
 ·exact eH (fj h.r2 c9 (λb hb c=>a23 b hb c)) p2
 ·subst hn;exact eH hown nX
 ·exact eH (fj h.r4 c9 (λb hb c=>a34 b c hb)) p4
theorem WS.nms_ {W:World}(h:WS W P B u1 u2 u3 u4 bs st)(c9:Chg (λb=>u4.ownBlock=some b) W w9){b:Bc}{d:Bdg}(hn:n9=(bs++[b]).length)(hown:w9.ownsRow B 108 5 (.slice (some ⟨g9,0,none⟩) n9 cap9) n9 (bcF (bs++[b])))(hat:u4.ownBlock=some g9\/W.heap.size<=g9)(hb:Mv (Mst P u1 u2 u3 u4) W (Mst P u1 u2 u3 (.slice (some ⟨g9,0,none⟩) n9 cap9)) (w9.setCell ⟨P,3,none⟩ (.slice (some ⟨g9,0,none⟩) n9 cap9))->BcOK (Mst P u1 u2 u3 (.slice (some ⟨g9,0,none⟩) n9 cap9)) (w9.setCell ⟨P,3,none⟩ (.slice (some ⟨g9,0,none⟩) n9 cap9)) b d):
  WS (w9.setCell ⟨P,3,none⟩ (.slice (some ⟨g9,0,none⟩) n9 cap9)) P B u1 u2 u3 (.slice (some ⟨g9,0,none⟩) n9 cap9) (bs++[b]) {st with names:=st.names++[d]}/\Mv (Mst P u1 u2 u3 u4) W (Mst P u1 u2 u3 (.slice (some ⟨g9,0,none⟩) n9 cap9)) (w9.setCell ⟨P,3,none⟩ (.slice (some ⟨g9,0,none⟩) n9 cap9)):=by
 obtain⟨p1,p2,p3,p4⟩:=h.np
 obtain⟨a12,a13,a14,a23,a24,a34⟩:=h.ap
 have ob:∀b,(Value.slice (some ⟨g9,0,none⟩) n9 cap9).ownBlock=some b↔g9=b:=λb=>by simp[Value.ownBlock]
 have gP:g9≠P:=λe=>by
  subst e
  rcases hat with c|c
  ·exact p4 c
  ·have:=h.lt;omega
 have nX:(Value.slice (some ⟨g9,0,none⟩) n9 cap9).ownBlock≠some P:=λc=>gP ((ob P).1 c)
 have ec:∀o,w9.cell? ⟨P,o,none⟩=W.cell? ⟨P,o,none⟩:=λo=>c9.cell (p:=⟨P,o,none⟩) h.lt p4
 have es:∀o,o≠3->(w9.setCell ⟨P,3,none⟩ (.slice (some ⟨g9,0,none⟩) n9 cap9)).cell? ⟨P,o,none⟩=W.cell? ⟨P,o,none⟩:=λo ho=>(eW _ _ _ _ _ _ (.inr (λe=>ho e.symm))).trans (ec o)
 have ks:=(eL (lo:=P) (hi:=P+1) w9 ⟨P,3,none⟩ (.slice (some ⟨g9,0,none⟩) n9 cap9) yac)
 have mv:Mv (Mst P u1 u2 u3 u4) W (Mst P u1 u2 u3 (.slice (some ⟨g9,0,none⟩) n9 cap9)) (w9.setCell ⟨P,3,none⟩ (.slice (some ⟨g9,0,none⟩) n9 cap9)):=by
  refine⟨Chg.andThen (S:=Mst P u1 u2 u3 u4) ⟨c9.os,c9.tape,c9.output,c9.size,λi hi hn=>c9.block i hi (λc=>hn (.inr (.inr (.inr (.inr c)))))⟩ (ks.chg1 (S:=Mst P u1 u2 u3 u4) (.inl rfl)),λb hb=>?_⟩
  rcases hb with c|c|c|c|c
  ·exact .inl (.inl c)
  ·exact .inl (.inr (.inl c))
  ·exact .inl (.inr (.inr (.inl c)))
  ·exact .inl (.inr (.inr (.inr (.inl c))))
  ·rw[ob] at c
   subst c
   rcases hat with d|d
   ·exact .inl (.inr (.inr (.inr (.inr d))))
   ·exact .inr d
 have ap:∀{u:Value} {e s n:Nat} {xs:List Value},W.ownsRow B e s u n xs->Apart u u4->Apart u (.slice (some ⟨g9,0,none⟩) n9 cap9):=λho ha k hk hv=>by
  exact xfa
 refine⟨⟨by simpa using yaj h.lt c9.size,λo=>?_,(es 0 xab).trans h.c0,(es 1 xab).trans h.c1,(es 2 xab).trans h.c2,fR _ _ _ _ _ ((ec 3).trans h.c3),(es 4 xab).trans h.c4,(es 5 xab).trans h.c5,(es 6 xab).trans h.c6,?_,?_,?_,?_,⟨p1,p2,p3,nX⟩,⟨a12,a13,ap h.r1 a14,a23,ap h.r2 a24,ap h.r3 a34⟩,(by simp only[yak,List.length_singleton];rw[h.nl]),λi hi=>by
  simp only
  by_cases c:i<bs.length
  ·rw[md _ _ _ _ c,md _ _ _ _ (by rw[<-h.nl];exact c)]
   exact(h.nb i c).mv mv
  ·have e:i=bs.length:=by rw[yak,List.length_singleton] at hi;omega
   subst e
   rw[re,h.nl,re]
   exact hb mv,h.sz⟩,mv⟩
 ·have:=(c9.frozen (p:=⟨P,o,none⟩) h.lt p4).trans (h.fr o)
  simp[this]
 ·exact eH (fj h.r1 c9 (λb hb c=>a14 b hb c)) p1
 ·exact eH (fj h.r2 c9 (λb hb c=>a24 b hb c)) p2
 ·exact eH (fj h.r3 c9 (λb hb c=>a34 b hb c)) p3
 ·subst hn;exact eH hown nX
theorem G9 {W:World}{e s n g cap k:Nat}{xs:List Value}{u:Value}(h:W.ownsRow B e s (.slice (some ⟨g,0,none⟩) n cap) n xs):(W.setCell ⟨g,k,none⟩ u).ownsRow B e s (.slice (some ⟨g,0,none⟩) n cap) n (xs.set k u):=by
 refine⟨by rw[List.length_set];exact h.1,?_⟩
 rcases h.2 with⟨c,_⟩|⟨g',cap',cur,e1,b1,b2,b3,b4,b5,b6⟩
 ·cases c
 ·cases e1
  refine .inr ⟨g,cap,cur.setIfInBounds k u,rfl,b1,?_,b3,b4,by rw[Array.size_setIfInBounds];exact b5,?_⟩
  ·rw[heap_setCell_same W g k _ _ _ b2]
  ·rw[Array.toList_setIfInBounds,<-b6,List.take_set]
theorem wS:∀(bs:List Bc) (k:Nat) (v:Int),k<bs.length->(bcF bs).set (k*5+2) (.int .i64 v)=bcF (bs.set k {bs.getD k Bc.zero with val:=v})
 |b::r,0,v,_=>by simp[bcF,Bc.cells]
 |b::r,k+1,v,h=>by
  have hb:b.cells.length=5:=rfl
  rw[bcF,List.set_append_right _ _ (by rw[hb];omega),hb,show(k+1)*5+2-5=k*5+2 by omega,wS r k v (by simpa using h)]
  rfl
theorem WS.setv {W:World}(h:WS W P B u1 u2 u3 u4 bs st){i:Nat}(hi:i<bs.length){s:List UInt8}{v0 v:Nat}(hd:st.names.getD i (.val [] 0)=.val s v0):∃g4 cp,u4=.slice (some ⟨g4,0,none⟩) bs.length cp/\g4<W.heap.size/\W.frozen? ⟨g4,i*5+2,none⟩=false/\WS (W.setCell ⟨g4,i*5+2,none⟩ (.int .i64 (v:Int))) P B u1 u2 u3 u4 (bs.set i {bs.getD i Bc.zero with val:=(v:Int)}) (st.setV i s v)/\Mv (Mst P u1 u2 u3 u4) W (Mst P u1 u2 u3 u4) (W.setCell ⟨g4,i*5+2,none⟩ (.int .i64 (v:Int))):=by
 obtain⟨g4,cp,e4,_,hg,_,h6⟩:=jU h.r4 xaa
 have ob:u4.ownBlock=some g4:=by rw[e4];rfl
 have fz:W.frozen? ⟨g4,i*5+2,none⟩=false:=by
  rcases h.r4.2 with⟨c,c2⟩|⟨g',cap',cur,e1,b1,b2,_⟩
  ·omega
  ·rw[e4] at e1
   cases e1
   simp[World.frozen?,b2]
 refine⟨g4,cp,e4,hg,fz,?_⟩
 have kp:=eL (lo:=g4) (hi:=g4+1) W ⟨g4,i*5+2,none⟩ (.int .i64 (v:Int)) yac
 have mv:Mv (Mst P u1 u2 u3 u4) W (Mst P u1 u2 u3 u4) (W.setCell ⟨g4,i*5+2,none⟩ (.int .i64 (v:Int))):=⟨kp.chg1 (S:=Mst P u1 u2 u3 u4) (.inr (.inr (.inr (.inr ob)))),λb hb=>.inl hb⟩
 obtain⟨n1,n2,n3,n4⟩:=h.np
 obtain⟨a12,a13,a14,a23,a24,a34⟩:=h.ap
 have gP:g4≠P:=λe=>n4 (by rw[<-e];exact ob)
 have es:∀o,(W.setCell ⟨g4,i*5+2,none⟩ (.int .i64 (v:Int))).cell? ⟨P,o,none⟩=W.cell? ⟨P,o,none⟩:=λo=>eW _ _ _ _ _ _ (.inl gP)
 refine⟨⟨by simpa using h.lt,λo=>by simp[h.fr o],(es 0).trans h.c0,(es 1).trans h.c1,(es 2).trans h.c2,(es 3).trans h.c3,(es 4).trans h.c4,(es 5).trans h.c5,(es 6).trans h.c6,eH h.r1 (λc=>a14 g4 c ob),eH h.r2 (λc=>a24 g4 c ob),eH h.r3 (λc=>a34 g4 c ob),?_,h.np,h.ap,?_,λj hj=>?_,h.sz⟩,mv⟩
 ·have:=G9 (k:=i*5+2) (u:=.int .i64 (v:Int)) (by have:=h.r4;rw[e4] at this;exact this)
  rw[wS bs i v hi] at this
  rw[e4,List.length_set]
  exact this
 ·show(bs.set i _).length=(st.names.set i _).length
  rw[List.length_set,List.length_set,h.nl]
 ·rw[List.length_set] at hj
  show BcOK _ _ ((bs.set i _).getD j Bc.zero) ((st.names.set i _).getD j (.val [] 0))
  by_cases c:j=i
  ·subst c
   have hb:=h.nb j hi
   rw[hd] at hb
   rw[oc _ _ _ _ hi,oc _ _ _ _ (by rw[<-h.nl];exact hi)]
   exact⟨hb.1,hb.2.1,rfl⟩
  ·rw[pZ _ _ _ _ _ (λe=>c e.symm),pZ _ _ _ _ _ (λe=>c e.symm)]
   exact(h.nb j hj).mv mv
def StO (W:World)(P B:Nat)(u1 u2 u3 u4:Value)(r:Rs LSt)(e:Ending)(W':World):Prop:=
 e=.returned (.tuple #[])/\match r with
 |.error (c,p)=>W'.cell? ⟨P,5,none⟩=some (.int .i64 c)/\W'.cell? ⟨P,6,none⟩=some (.int .i64 (p:Int))/\Chg (Mst P u1 u2 u3 u4) W W'
 |.ok st=>∃bs v1 v2 v3 v4,WS W' P B v1 v2 v3 v4 bs st/\Mv (Mst P u1 u2 u3 u4) W (Mst P v1 v2 v3 v4) W'
end
section
attribute [local go_sem] eD eB eA
theorem BI {f:Nat}{W:World}{P B:Nat}{u1 u2 u3 u4:Value}{bs:List Bc}{st:LSt}{g off m cap:Nat}{k:Tok}{e:Ex}{ts:List Tok}(H:TrIn W P B u1 u2 u3 u4 bs st none 0 [] g off m cap (k::ts))(hk:k.sym=CO)(ha:Pr 2 [e] ts){r:Rs LSt}(h:gU f st (.outS k e)=some r):
  Calls prog 46 #[.pointer (some ⟨P,0,none⟩),.slice (some ⟨g,off,none⟩) m cap] W (StO W P B u1 u2 u3 u4 r):=by
 have hm:(k::ts).length=m:=H.tk.len
 rw[yap] at hm
 have hl:=ii ha
 have hmc:=H.mc
 have m5:=H.m5
 have ho:=H.gd.o
 have c0:=H.tk.c0 0 xaa
 have c1:=H.tk.c1 0 xaa
 rw[show(k::ts).getD 0 Tok.zero=k from rfl] at c0 c1
 rw[hk] at c0
 rw[show CO=[111,117,116] from rfl] at c0
 have p2:=H.ws.c2
 obtain⟨a3,x3,e3⟩:=iB H.ws.r3
 have HW:Hid _:=H.ws
 have HGd:Hid _:=H.gd
 simp only[Nat.zero_mul,Nat.add_zero] at c0 c1
 simp only[gU] at h
 by_cases hc:50<=st.outs.length
 ·rw[if_pos hc] at h
  have HR:Hid (r=.error (5,k.pos)):=(Option.some.inj h).symm
  have HSt:Hid _:=iL H.ws.c5 H.ws.c6 H.ws.fr 5 k.pos (Mst P u1 u2 u3 u4) (.inl rfl)
  have hc':(50:Int)<=(st.outs.length:Int):=xaa
  clear H h
  subst e3
  generalize st.outs.length=no at*
  generalize k.pos=kp at*
  go_enter func46,ntmps46
  go_wp2_with (go_at_call 74;refine yai HSt.out ?_;rintro e w3 ⟨rfl,hbad⟩)
  refine yay (v:=.tuple #[]) (by simp[results,results46,go_sem]) rfl ?_
  rw[HR.out]
  exact⟨rfl,hbad.c5,hbad.c6,hbad.chg⟩
 ·rw[if_neg hc] at h
  cases he:eJ f st [] e with
  |none=>rw[he] at h;cases h
  |some r1=>
   rw[he] at h
   have HR:Hid (r=DU r1):=(Option.some.inj h).symm
   have ea:EOK e:=iE ha (λt ht=>H.ti t (by simp[ht])) e xac
   have hG:=fW f st [] e H.gd H.nm H.lo ea r1 he
   have hs:=H.sub H.ws (Gw.refl H.gd) (Mv.refl _ _) 1 m yad ts (by
    rw[List.drop_succ_cons,List.drop_zero,yao xaa]) (cap':=cap-1) xaa
   have HC:Hid _:=trc f W P B u1 u2 u3 u4 bs st none 0 0 [] g _ _ _ ts hs 2 e ha yad r1 he
   have hc':¬(50:Int)<=(st.outs.length:Int):=xaa
   have HG:Hid _:=hG
   clear hs hG H h he
   subst e3
   generalize hno:st.outs.length=no at*
   have HNo:Hid _:=hno
   clear hno
   generalize k.pos=kp at*
   rcases r1 with⟨c,p⟩|⟨s,v⟩
   ·go_enter func46,ntmps46
    go_wp2_with (go_at_call 75;refine yai HC.out ?_;rintro e w3 ⟨rfl,hT⟩)
    refine yay (v:=.tuple #[]) (by simp[results,results46,go_sem]) rfl ?_
    rw[HR.out]
    exact⟨rfl,hT⟩
   ·obtain⟨w,hv⟩:=HG.out s v rfl
    have hv0:(0:Int)<=(v:Int):=xaa
    have HGo:Hid (s.outs=st.outs):=w.o
    go_enter func46,ntmps46
    go_upto_region 6 with (go_at_call 75;refine yai HC.out ?_;rintro e w3 ⟨rfl,v1,v2,v3,v4,hW3,hM3⟩)
    have q2:=hW3.c2
    have ka:=ez 0 0 w3 (.cells #[.int .i64 (v:Int)] 3)
    have HWa:Hid _:=hW3.keep ka
    have hCn:(w3.alloc (.cells #[.int .i64 (v:Int)] 3)).cell? ⟨w3.heap.size,0,none⟩=some (.int .i64 (v:Int)):=by rw[yau];rfl
    have HM3:Hid _:=hM3.keep ka
    have HBz:Hid (B<=w3.heap.size):=by show _<=_;have:=hW3.sz;have:=hW3.lt;omega
    have HLo:Hid (s.outs.length<=50):=w.g.o
    clear hW3 hM3 c0 c1 p2 HC HG w
    go_wp2_with (first|(at_builtin;refine fk _ rfl _ _ rfl B _ s.outs (by rfl) HWa.out.r3 ⟨w3.heap.size,0,none⟩ (v:Int) (by rfl) hCn ?c2 ?c3 ?_)|fail)
    case c2=>have:=HLo.out;omega
    case c3=>have:=HBz.out;simp;omega
    intro g9 cap9 n9 w9 hn9 hR9 hC9 hG9
    obtain⟨hWn,hMn⟩:=HWa.out.outs_ (n9:=n9) (cap9:=cap9) (g9:=g9) (zs:=s.outs++[(v:Int)]) hC9 (by rw[hn9];simp) (by rw[List.map_append];exact hR9) (hG9.imp id (λe=>by rw[e];simp))
    have hlt:=HWa.out.lt
    have y2:=(hC9.cell (p:=⟨P,2,none⟩) hlt HWa.out.np.2.2.1).trans HWa.out.c2
    have yf:=(hC9.frozen (p:=⟨P,2,none⟩) hlt HWa.out.np.2.2.1).trans (HWa.out.fr 2)
    have HWn:Hid _:=hWn
    have HMn:Hid _:=HM3.out.trans hMn
    clear hWn hMn hC9 hR9 hG9 hn9 ka hCn HWa HM3
    go_wp2_with fail
    refine yay (v:=.tuple #[]) (by simp[results,results46,go_sem]) rfl ?_
    rw[HR.out]
    exact⟨rfl,_,_,_,_,_,HWn.out,HMn.out⟩
