import Derived.Test.YtiacbhjphaldlaaGreatDoorP48
namespace Go.Proofs.Z
variable{st w t}
variable{Zp:Prop}
open Tryz
set_option maxRecDepth 1000000
set_option maxHeartbeats 0
section
open Go.RowKit Go.Shelf
attribute[local go_sem] Oper.semAt_some
theorem yr(F n)(bL:F.fn 165)(p:F.round=none){a b cap w}:
  CallsIn F n prog 165 #[.slice a b cap] w λe D=>e=.returned (.func (.func 177) #[] #[ge w.heap.size])/\D=w.alloc (.cells #[.slice a b cap] 188):=by
 refine callsIn_of_wp func165 rfl bL ?_ p;simp only[ntmps165,List.size_toArray,yap,List.length_nil,Nat.reduceAdd,Nat.reduceSub,Array.replicate_succ,Array.replicate_zero,List.push_toArray,List.append_toArray,List.nil_append,List.cons_append];gi_wp2
 go_ret;exact⟨rfl,rfl⟩
structure BkN(W:World)(Bs g m cap:Nat)(a:Option Addr)(rs:List Value):Prop where
 box:W.cell? ⟨Bs,0,none⟩=some (.slice a m cap)
 at_:∀j,j<m->a=some ⟨g,0,none⟩/\∃N bs,rs[j]?.getD .nilIface=.iface N bs/\W.cell? ⟨g,j,none⟩=some (.iface N bs)
theorem Ns(F n)(S:F.fn 177)(p:F.round=none)(V:1<=n)(l t g m cap a rs)(aR:m<=10000000)(b:World->World->Prop)(h:∀aH B,b aH B->BkN aH t g m cap a rs->BkN B t g m cap a rs)(ab c:List (Fin m)->World->Prop)
  (f:∀L x W,ab L W->L.length<m->YieldAt F (n-1) prog l #[h0 x.1,rs[x.1]?.getD .nilIface] W λe A=>
   (e=.returned (.bool true)/\ab (L++[x]) A/\b W A)\/(e=.returned (.bool false)/\c (L++[x]) A))
  (W) (ax:BkN W t g m cap a rs) (aC:ab [] W):
  CallsIn F n prog 177 #[.func (.yield l) #[] #[],ge t] W λe A=>(∃v,e=.returned v)/\
   ((∃ys:List (Fin m),ys.map Fin.val=(List.range m).map (λi=>m-1-i)/\ab ys A)\/(∃L:List (Fin m),True/\c L A)):=by
 have U:=ax.box;have bN:IntKind.i64.wrap (m-1)=m-1:=by rw[IntKind.wrap_i64];omega
 refine callsIn_of_wp func177 rfl S ?_ p;simp only[ntmps177,List.size_toArray,yap,List.length_nil,Nat.reduceAdd,Nat.reduceSub,Array.replicate_succ,Array.replicate_zero,List.push_toArray,List.append_toArray,List.nil_append,List.cons_append];gi_wp2
 gi_loopw [3] (λv wr=>∃(k:Nat) (L:List (Fin m)),k<=m/\v=h0 ((m:Int)-1-(k:Int))/\L.map Fin.val=(List.range k).map (λi=>m-1-i)/\BkN wr t g m cap a rs/\ab L wr)
  (λv _=>(intOf v+1).toNat)
 case atStart=>exact⟨0,_,yad,by simp,rfl,ax,aC⟩
 case round=>
  exact xat
theorem qK(F n)(S:F.fn 177)(p:F.round=none)(V:1<=n)(t g m cap a rs)(aR:m<=10000000)(b)(h:∀aH B,b aH B->BkN aH t g m cap a rs->BkN B t g m cap a rs)(w)(ax:∀W,Below w.heap.size w W->BkN W t g m cap a rs):
  SeqStopsK F n prog 177 #[ge t] (λx:Fin m=>#[Value.int .i64 (x.1:Int),rs[x.1]?.getD .nilIface]) b (λys=>ys.map Fin.val=(List.range m).map (λi=>m-1-i)) (λ_=>True) m w:=λl ab c W O _ _ f aC=>
 Ns F n S p V l t g m cap a rs aR b h ab c f W (ax W O) aC
end
section
open Go.RowKit Flt
attribute[local go_sem] dI dG dF gh gj gn mkF
variable{ρ:Nat->Nat}{names:List Bdg}{calls:Nat}{aO:List TkV}{G:List Nat}{bm am:Value}
theorem OfR.any{W v ys}(h:OfR W ρ v ys):∃a cap,v=.slice a ys.length cap:=by
 obtain⟨K,a6⟩|⟨aY,cap',bp,K,_⟩:=h.1.2
 ·exact⟨none,0,by rw[K,a6]⟩
 exact⟨_,cap',K⟩
theorem Tq.pushX{E W aq ins vs outs u1 u3 Y a g n cap}
  (ax:TqB E ρ W ins vs outs u1 u3 Y) (C:TqT E ρ W names calls aO G bm am) (c:Chg (λb=>am.ownBlock=some b) W aq) (aG:am.ownBlock=some g\/g=W.heap.size) (aV:g<aq.heap.size)
  (V:n=(G++[a]).length) (aw:aq.ownsRow E.N 3 1 (hZ g n cap) n (ie (G++[a]))):
  ∃ρ',TqB E ρ' (aq.setCell ⟨E.T,5,none⟩ (hZ g n cap)) ins vs outs u1 u3 Y/\TqT E ρ' (aq.setCell ⟨E.T,5,none⟩ (hZ g n cap)) names calls aO (G++[a]) bm (hZ g n cap)/\Sco ρ W ρ' (aq.setCell ⟨E.T,5,none⟩ (hZ g n cap)):=by
 have c2:=nR c E.T 5 (hZ g n cap);have f:∀b,(am.ownBlock=some b\/b=E.T)->ρ b=2\/ρ b=9:=λb q=>q.elim (λq=>.inr (C.rx b q)) (λq=>.inl (it q C.rT));have o:TcC E (aq.setCell ⟨E.T,5,none⟩ (hZ g n cap)) calls bm (hZ g n cap):=(C.toTcC.chg c (λq=>ip (C.rx _ q) C.rT)).set5 _
 have s:∀b,g=b->b≠E.T:=λb q e=>by
  obtain d|d:=aG
  ·have u:=C.rx _ d;have:=C.rT;rw[q,e]at u;omega
  ·have:=C.lt;omega
 have h:(aq.setCell ⟨E.T,5,none⟩ (hZ g n cap)).ownsRow E.N 3 1 (hZ g n cap) (G++[a]).length (ie (G++[a])):=by
  rw[<-V];exact dP aw (λq=>s _ rfl (by simpa[Value.ownBlock] using q))
 have bc:=fH C.k c2 (λb q r=>ip (C.rk b q) (f b r));have bY:(aq.setCell ⟨E.T,5,none⟩ (hZ g n cap)).heap.size=aq.heap.size:=by simp[go_sem]
 have j:∀ρ':Nat->Nat,(∀b,b<W.heap.size->ρ' b=ρ b)->(∀b,aq.heap.size<=b->ρ' b=0)->ρ' g=9->TqB E ρ' (aq.setCell ⟨E.T,5,none⟩ (hZ g n cap)) ins vs outs u1 u3 Y/\TqT E ρ' (aq.setCell ⟨E.T,5,none⟩ (hZ g n cap)) names calls aO (G++[a]) bm (hZ g n cap)/\Sco ρ W ρ' (aq.setCell ⟨E.T,5,none⟩ (hZ g n cap)):=λρ' e i aD=>by
  have m:∀b,(hZ g n cap).ownBlock=some b->ρ' b=9:=λb q=>by
   have:g=b:=by simpa[Value.ownBlock] using q
   rw[<-this];exact aD
  have l:=TqT.own (ρ':=ρ') (L':=aO) (xs':=G++[a]) C c2 (λb _ q=>ih (f b q)) e (λb I=>i b (by rw[bY]at I;exact I)) o bc (λb q=>(e b (dO C.k q).2).trans (C.rk b q)) h m C.l
  exact h1 (ax.chg (ρ':=ρ') c2 (λb _ q=>ih (f b q)) e) (h1 l (Sco.of c2 (λb _ q=>ih (f b q)) e))
 obtain d|d:=aG
 ·exact⟨ρ,j ρ (λ_ _=>rfl) (λb I=>C.rN b (yan c.size I)) (C.rx g d)⟩
 refine⟨lI ρ g 9,j _ (nN xaa) (λb I=>?_) (lj _ _ _)⟩;exact xei
theorem Tq.sameX{E ρ' W A}(h:Tq E ρ' A st aO G)(t:Tsm E W A)(ab:E.T<W.heap.size)(ar:W.cell? ⟨E.T,5,none⟩=some am):∃u1 u3 Y bm,TqB E ρ' A st.ins st.vs st.outs u1 u3 Y/\TqT E ρ' A st.names st.calls aO G bm am:=by
 obtain⟨u1,u3,Y,bm,xv',ax,C⟩:=h;have z:A.cell? ⟨E.T,5,none⟩=W.cell? ⟨E.T,5,none⟩:=World.cell?_of_block (w:=W) (t ab)
 have:xv'=am:=by
  have:=C.t5.symm.trans (z.trans ar);exact h4 this
 subst this;exact⟨u1,u3,Y,bm,ax,C⟩
theorem Pp{E W o}(C:TqT E ρ W names calls aO G bm am)(aG:(W.alloc o).grownBy t am.ownBlock):t.cell? ⟨E.T,5,none⟩=some am:=
 ((eD aG).cell (p:=⟨E.T,5,none⟩) (yaj C.lt (dE 0 0 W o).size) (λq=>by have q:am.ownBlock=some E.T:=q;have:=C.rx _ q;have:=C.rT;omega)).trans (dZ (dE 0 0 W o) C.lt C.t5)
theorem Pq{E W o}(C:TqT E ρ W names calls aO G bm am)(aG:(W.alloc o).grownBy t am.ownBlock):t.frozen? ⟨E.T,5,none⟩=false:=
 ((eD aG).frozen (p:=⟨E.T,5,none⟩) (yaj C.lt (dE 0 0 W o).size) (λq=>by have q:am.ownBlock=some E.T:=q;have:=C.rx _ q;have:=C.rT;omega)).trans (((dE 0 0 W o).frozen (p:=⟨E.T,5,none⟩) C.lt xaa).trans (C.fz 5))
def LvO(E:Tqe)(ρ:Nat->Nat)(w:World)(L:List TkV)(X:List Nat)(r:Rs (LSt×Nat))(e:Ending)(w':World):Prop:=
 (∃st' a ρ',r=.ok (st',a)/\e=.returned (.tuple #[])/\Tq E ρ' w' st' L (X++[a])/\Sco ρ w ρ' w')\/(∃c p,r=.error (c,p)/\e=Thr c (p:Nat)/\Chg (λb=>ρ b≠0) w w')
end
section
open Go.RowKit Flt
attribute[local go_sem] dI dG dF gh gj gn mkF eB gu
variable{ρ:Nat->Nat}{aO:List TkV}{G:List Nat}
theorem ClO.after{E Z D ys e}(s:Sco ρ w ρ Z)(h:ClO E ρ Z st aO G ys t e D):ClO E ρ w st aO G ys t e D:=by
 obtain⟨z,J,al⟩|⟨z,J,al,bw⟩|⟨z,ps,body,T,x,q,ρ',J,al,bw,bL⟩:=h
 ·exact .inl ⟨z,J,s.bad al⟩
 ·exact .inr (.inl ⟨z,J,al,s.bad bw⟩)
 exact .inr (.inr ⟨z,_,_,T,x,q,_,J,al,bw,s.trans bL⟩)
theorem CT{E}(h:Tq E ρ w st aO G)(I:aO.length<=50000000)(aj:st.calls<=500){t}(ai:t.sym≠[]){p a1 n1 c1 mp b}(V:n1<=G.length)(bw:n1<=10000000)(ab:G.length<=6000000):
  Calls prog 158 #[ge E.T,.agg #[.iface 203 (.agg #[h0 p,.slice a1 n1 c1,h0 (cvT t).kind,dJ (cvT t).text,h0 ((cvT t).at_:Int)]),.map mp,.bool b]] w (ClO E ρ w st aO (G.take (G.length-n1)) (G.drop (G.length-n1)) t):=by
 have bB:M (ρ w.heap.size=0):=by
  obtain⟨_,_,_,_,_,_,C⟩:=h;exact C.rN _ yac
 have bq:M (∀W,Kept 0 0 w W->_):=λW k=>AO (h.keep k) n1 V ab;have i1:(G.drop (G.length-n1)).length=n1:=by rw[List.length_drop];omega
 have aE:M (∀W a2 c2,Tq E ρ W st aO (G.take (G.length-n1))->OfR W ρ (.slice a2 n1 c2) (G.drop (G.length-n1))->Calls prog 161 #[ge E.T,.agg #[h0 p,.slice a1 n1 c1,h0 (cvT t).kind,dJ (cvT t).text,h0 ((cvT t).at_:Int)],.slice a2 n1 c2] W (ClO E ρ W st aO (G.take (G.length-n1)) (G.drop (G.length-n1)) t)):=λW a2 c2 an av=>by
  have:=Po (ys:=G.drop (G.length-n1)) (a2:=a2) (c2:=c2) an I aj ai p a1 c1 (it i1 av) (it i1 bw)
  rw[i1]at this
  exact this
 have aJ:=Q i1;clear h V ab i1 I aj;generalize G.take (G.length-n1)=X at*;generalize G.drop (G.length-n1)=ys at*;have f:M (∀Z e D,Sco ρ w ρ Z->ClO E ρ Z st aO X ys t e D->_):=λZ e D s k=>k.after s
 have g:M (∀Z e D,ClO E ρ Z st aO X ys t e D->e=.returned (.tuple #[])\/∃c q:Int,e=Thr c q):=λZ e D k=>by
  obtain⟨_,J,_⟩|⟨_,_,al,_⟩|⟨_,_,_,_,_,_,_,_,al,_⟩:=k
  ·exact .inr ⟨_,_,J⟩
  ·exact .inr ⟨_,_,al⟩
  ·exact .inl al
 generalize cvT t=j at*;have aw:M _:=mj w (.iface 203 (.agg #[h0 p,.slice a1 n1 c1,h0 j.kind,dJ j.text,h0 j.at_])) (.map mp) (.bool b);go_enter func158,ntmps158
 go_upto_region 2 with (first
  |(go_at_call 268;refine yai nJ ?_;rintro e aa ⟨rfl,af⟩;obtain⟨(a:M _),aP,aQ,aU,bN⟩:=aw.o _ af;have bV:M _:=h1 aP bN;clear af aQ aU)
  |(go_at_call 160;refine yai (bq.o _ a.o) ?_;rintro e Z ⟨v,rfl,av,an,ai⟩;obtain⟨a2,c2,rfl⟩:=av.any;have aT:M _:=h1 av (h1 an ai);clear av an ai))
 obtain⟨av,an,cp⟩:=aT.o;rw[aJ.o] at*;have bT:=(cp.chg.cell (p:=⟨w.heap.size,0,none⟩) bV.o.2 (λq=>q bB.o)).trans bV.o.1;have aL:=dE 0 0 Z (.cells #[h0 p,.slice a1 n1 c1,h0 j.kind,dJ j.text,h0 j.at_] 203);have aK:M _:=aE.o _ a2 c2 (an.keep aL) (av.keep aL);have T:M _:=((Sco.kept a.o).trans cp).trans (Sco.kept aL);clear aT bV av an cp aE bq aw aL;go_wp2_with (go_at_call 161;refine yai aK.o ?_;rintro e bn ah;have u:M (ClO E ρ w st aO X ys t e bn):=f.o _ _ _ T.o ah;obtain rfl|⟨c,q,rfl⟩:=g.o _ _ _ ah;rotate_left;exact h1 rfl u.o;clear ah);go_end0
 exact u.o
end
section
open Go.RowKit Flt
attribute[local go_sem] dI dG dF gh gj gn mkF
variable{ρ:Nat->Nat}{aO:List TkV}{G:List Nat}
theorem yt{E W names calls bm am}(C:TqT E ρ W names calls aO G bm am)(k:Kept 0 0 w W)(c:Chg (λb=>bm.ownBlock=some b) W t)(v):KeepsOthers w (t.setCell ⟨E.T,4,none⟩ v):=by
 have c2:=nR c E.T 4 v;refine⟨yan k.size c2.size,λi o hi av=>?_⟩;have ab:=(Array.getElem?_eq_some_iff.1 hi).1;have z:=(k.block i ab xaa).trans hi;rw[c2.block i (yaj ab k.size) ?_]
 ·exact z
 rintro (e|e)
 ·have e:=e;rw[jI C.k e z]at av;cases av
 rw[e]at z;rw[jS C.t0 z]at av;cases av
theorem Tq.own{E W A B}(h:Tq E ρ W st aO G){X}(g:W.grownBy A X)(ah:∀r,X=some r->B<=r/\∃o:Obj,W.heap[r]? =some o/\o.isCells=false)(bb:E.N<=B)(F:E.V<B)(a0:E.F<B)(an:∀y∈aO,∀q,y.p=.map (some q)->q<B):
  ∃ρ',Tq E ρ' A st aO G/\∀b,b<B->ρ' b=ρ b:=by
 cases X with
 |none=>
  have k:Kept 0 0 W _:=⟨g.os,g.tape,g.output,g.size,λb I _=>g.block b I xac⟩
  exact⟨_,h.keep k,λ_ _=>rfl⟩
 |some r=>
  obtain⟨ax,o,av,aj⟩:=ah r rfl;obtain⟨u1,u3,Y,bm,am,I,C⟩:=h
  have aC:∀{b:Nat},(∀ao,W.heap[b]? =some ao->ao.isCells=true)->b≠r:=λ{b} f e=>by
   simp_all
  have a:∀b c,ρ b=c->b≠r->lI ρ r 0 b=c:=λb c e V=>by unfold lI;rw[h2 V];exact e
  have i:Tq E (lI ρ r 0) W st aO G:=by
   refine⟨_,_,_,_,_,⟨I.b,I.i,I.o,a _ _ I.rP (aC λao h'=>jS I.b.c0 h'),λb e=>a _ _ (I.rR b e) (aC λao h'=>jI I.b.own e h'),λb e=>a _ _ (I.ri b e) (aC λao h'=>jI I.i e h'),λb e=>a _ _ (I.ro b e) (aC λao h'=>jI I.o e h'),I.e1,I.e3⟩,
    ⟨C.toTcC,C.k,C.x,C.v,C.f,λy aY=>⟨(C.l y aY).1,?_,(C.l y aY).2.2⟩,a _ _ C.rT (aC λao h'=>jS C.t0 h'),a _ _ C.rV xaa,a _ _ C.rF xaa,λb e=>a _ _ (C.rk b e) (aC λao h'=>jI C.k e h'),λb e=>a _ _ (C.rx b e) (aC λao h'=>jI C.x e h'),λb i1=>a _ _ (C.r0 b i1) xaa,λb i1=>?_,C.sz⟩⟩
   ·obtain e|⟨q,K,a6,ag⟩:=(C.l y aY).2.1
    ·exact .inl e
    exact .inr ⟨q,K,a _ _ a6 (by grind),ag⟩
   unfold lI;split
   ·rfl
   exact C.rN b i1
  have l:Chg _ W _:=⟨g.os,g.tape,g.output,g.size,λb i1 V=>g.block b i1 (λe=>V (h4 e))⟩
  exact⟨_,i.priv l xaa (by unfold lI;grind),λb i1=>by grind⟩
theorem F8{E}(h:Tq E ρ w st aO G)(ab:aO.length<=50000000){F aP bM}(ae:Nd w (λb=>b<E.N) (.iface F aP) bM)(H:ENk bM){mp loc}(aB:PrM w ρ (.map mp) loc):
  Calls prog 157 #[ge E.T,.iface F aP,.map mp] w λe D=>e=.returned (.tuple #[])/\∃ρ',Tq E ρ' D st (⟨.iface F aP,.map mp,⟨bM,loc,false⟩⟩::aO) G/\Sco ρ w ρ' D/\KeepsOthers w D:=by
 obtain⟨u1,u3,Y,bm,am,ax,C⟩:=h;have af:=dE 0 0 w (.cells #[.iface F aP,.map mp,.bool false] 232);have x:=ax.chg (af.chg (S:=λ_=>False)) (λ_ _ q=>q.elim) (λ_ _=>rfl);have i:=C.chg (af.chg (S:=λ_=>False)) (λ_ _ q=>q.elim) (λ_ _=>rfl) (λb I=>C.rN b (yan af.size I));have aY:Nd _ _ _ _/\PrM _ _ _ _/\ENk _:=⟨ae.keep af,aB.chg (af.chg (S:=λ_=>False)) (λ_ q=>q.elim) (λ_ _=>rfl),H⟩
 obtain⟨L,_,_⟩:=eo w #[.iface F aP,.map mp,.bool false] 232 (ib).chg (S:=λ_=>False) (λc=>c);have bH:(w.alloc _).cell? _=some (.iface _ _):=L 0;have n1:(w.alloc _).cell? _=some (.map _):=L 1;have aI:(w.alloc _).cell? _=some (.bool _):=L 2;have z:M (¬bm.ownBlock=some E.T):=λq=>by have m:=C.rk _ q;have:=C.rT;omega
 have bs:=C.t4;have aw:=Q x;have bW:=Q i;have u:=Q aY;have bc:M _:=h1 bH (h1 n1 aI);have ay:=Q af;clear ax C x i aY bH n1 aI af L ae H aB;go_enter func157,ntmps157;go_wp2_with (at_builtin;(refine mJ _ rfl _ _ rfl _ bm _ rfl (by rw[List.length_reverse];exact bW.o.k) _ ⟨_,_,⟨bM,loc,_⟩⟩ rfl rfl rfl bc.o.1 bc.o.2.1 bc.o.2.2 (by grind) bW.o.sz ?_;intro g cap n bn b4 j f a0 cr;have aE:M _:=yt bW.o ay.o f (hZ g n cap);have O:M _:=Tq.push aw.o bW.o f a0 cr b4 j u.o;have o:=(f.cell bW.o.lt z.o).trans bW.o.t4;have l:=(f.frozen bW.o.lt z.o).trans (bW.o.fz 4);clear b4 j f a0 cr));go_end0
 obtain⟨ρ',bg,a8,bE⟩:=O.o;exact⟨rfl,_,⟨_,_,_,_,_,bg,a8⟩,(Sco.kept ay.o).trans bE,aE.o⟩
end
section
open Go.RowKit Flt Go.Shelf
attribute[local go_sem] dI dG dF gh gj gn mkF Oper.semAt_some eA eI eB gD gq gY gF gu fS
variable{ρ:Nat->Nat}{w aH B:World}{st:LSt}{aO:List TkV}{G:List Nat}{mp:Option Nat}{b:Bool}{a1:Option Addr}{loc:Loc}{n1 c1 bT:Nat}{rs:List Value}{es:List Ex}{n:Tok}{T:TypeId}
def kTs(rs:List Value)(es:List Ex)(mp:Option Nat)(loc:Loc){m:Nat}(pre:List (Fin m)):List TkV:=pre.reverse.map λy=>⟨rs[y.1]?.getD .nilIface,.map mp,⟨es.getD y.1 (.name h8),loc,false⟩⟩
theorem yu(rs es mp loc){m}(L)(y:Fin m):kTs rs es mp loc (L++[y])=⟨rs[y.1]?.getD .nilIface,.map mp,⟨es.getD y.1 (.name h8),loc,false⟩⟩::kTs rs es mp loc L:=by
 unfold kTs;rw[List.reverse_append];rfl
theorem Bg{m}{ys:List (Fin m)}(aR:es.length=m)(h:ys.map Fin.val=(List.range m).map (λi=>m-1-i)):(kTs rs es mp loc ys).map (·.t)=es.map (mkT loc):=by
 have z:ys.reverse.map Fin.val=List.range m:=by
  rw[List.map_reverse,h];apply List.ext_getElem
  ·simp
  intro i z J;simp at z J;simp[List.getElem_reverse];omega
 have J:(kTs rs es mp loc ys).map (·.t)=(ys.reverse.map Fin.val).map λj=>(⟨es.getD j (.name h8),loc,false⟩:Tsk):=by
  unfold kTs;rw[List.map_map,List.map_map];rfl
 rw[J,z];apply List.ext_getElem
 ·simp[aR]
 intro i z J;simp at z J;simp[List.getD_eq_getElem?_getD,List.getElem?_eq_getElem J]
structure EnI(E:Tqe)(ρ:Nat->Nat)(w:World)(L:List TkV)(a1:Option Addr)(n1 c1:Nat)(mp:Option Nat)(loc:Loc)(rs:List Value)(es:List Ex):Prop where
 row:Rw w (λb=>b<E.N) (.slice a1 n1 c1) rs
 nd:NdL w (λb=>b<E.N) rs es
 rl:rs.length=n1
 tk:∀e∈es,ENk e
 y:∃y∈L,y.p=.map mp/\y.t.loc=loc
 l:L.length+n1<=40000000
 m:n1<=10000000
theorem EnI.bk{E}(f:EnI E ρ w aO a1 n1 c1 mp loc rs es):∃g,(0<n1->0<=g/\g<E.N)/\∀W t,(0<n1->∀o,W.cell? ⟨g,o,none⟩=w.cell? ⟨g,o,none⟩)->W.cell? ⟨t,0,none⟩=some (.slice a1 n1 c1)->BkN W t g n1 c1 a1 rs:=by
 obtain aX|aX:=Nat.eq_zero_or_pos n1
 ·exact⟨0,λh=>by omega,λW t c I=>⟨I,λj aK=>by omega⟩⟩
 obtain⟨g,aG⟩:∃g,a1=some ⟨g,0,none⟩:=by
  obtain⟨K,a6⟩|⟨aY,cap',bp,K,_⟩:=f.row.1.2
  ·have:=f.rl;omega
  injection K with ag _ _;exact⟨aY,ag⟩
 have e:g<E.N:=f.row.2 g (i0 aG);refine⟨g,λ_=>⟨yad,e⟩,λW t c I=>⟨I,λj aK=>⟨aG,?_⟩⟩⟩;have a:j<rs.length:=ih f.rl
 have c6:j<es.length:=iv f.nd.1 a
 have ae:=f.nd.2 j rs[j] es[j] (yal a) (yal c6);obtain⟨T,x,ar⟩:=ae.iface;refine⟨T,x,by rw[yal a];exact ar,?_⟩;have:=f.row.1.cells (g:=g) (i0 aG) j (.iface T x) (by rw[yal a,ar]);rw[fL,Nat.zero_add]at this;rw[c aX j];exact this
def EnO(E:Tqe)(ρ:Nat->Nat)(w:World)(st:LSt)(L:List TkV)(xs:List Nat)(loc:Loc)(es:List Ex)(e:Ending)(w':World):Prop:=
 e=.returned (.tuple #[])/\∃ρ' ks,Tq E ρ' w' st (ks++L) xs/\Sco ρ w ρ' w'/\ks.map (·.t)=es.map (mkT loc)
theorem rA{bX aC W X}(s:Sco ρ W bX aH)(g:aH.grownBy B X)(ah:∀r,X=some r->W.heap.size<=r)(e:∀b,b<W.heap.size->aC b=bX b):Sco ρ W aC B:=
 ⟨⟨g.os.trans s.chg.os,g.tape.trans s.chg.tape,g.output.trans s.chg.output,yan s.chg.size g.size,λk H V=>(g.block k (yaj H s.chg.size) (λe=>ih (ah k e.symm))).trans (s.chg.block k H V)⟩,λb I=>(e b I).trans (s.ext b I)⟩
theorem yv{lo hi g m cap a}(k:Kpp lo hi t aH B)(aG:0<m->lo<=g/\g<hi)(h:BkN aH t g m cap a rs):BkN B t g m cap a rs:=
 ⟨by rw[k.2.cell yac yae];exact h.box,λj aK=>by
  obtain⟨z,N,am,J,al⟩:=h.at_ j aK
  have:=aG xaa
  exact⟨z,N,am,J,by rw[k.1.cell this.1 this.2];exact al⟩⟩
abbrev ndA(p:Int)(a1:Option Addr)(n1 c1:Nat)(ct:PTk):Value:=.agg #[.int .i64 p,.slice a1 n1 c1,.int .i64 ct.kind,dJ ct.text,.int .i64 (ct.at_:Int)]
structure NvI(v:Value):Prop where
 p:M (v=v)
abbrev JZ{v:Value}(_:NvI v):Value:=v
theorem qr(E:Tqe)(w bG mp b):∃i1,M (i1=(w.alloc (.cells #[ge E.T] 94)).alloc (.cells #[bG,.map mp,.bool b] 232))/\Kept 0 0 w i1/\i1.cell? ⟨w.heap.size,0,none⟩=some (ge E.T)/\i1.cell? ⟨w.heap.size+1,0,none⟩=some bG/\i1.cell? ⟨w.heap.size+1,1,none⟩=some (.map mp)/\w.heap.size<i1.heap.size/\w.heap.size+1<i1.heap.size:=by
 have z:=eo w (A:=(w.alloc (.cells #[ge E.T] 94)).alloc (.cells #[bG,.map mp,.bool b] 232)) #[ge E.T] 94 (S:=λ_=>False) (dE 0 0 _ _).chg (λc=>c);have J:=eo (w.alloc (.cells #[ge E.T] 94)) #[bG,.map mp,.bool b] 232 (ib).chg (S:=λ_=>False) (λc=>c);rw[show(w.alloc (.cells #[ge E.T] 94)).heap.size=w.heap.size+1 by simp]at J;exact⟨_,rfl,(dE 0 0 w _).trans (dE 0 0 _ _),z.1 0,J.1 0,J.1 1,z.2.2,J.2.2⟩
theorem bI.qcd(h:Zp:=by
 refine callsIn_wide.1 (callsIn_of_wp_marks (F:=Fence.wide) (n:=3) func159 rfl trivial ?_ rfl);simp only[ntmps159,List.size_toArray,yap,List.length_nil,Nat.reduceAdd,Nat.reduceSub,Array.replicate_succ,Array.replicate_zero,List.push_toArray,List.append_toArray,List.nil_append,List.cons_append];rw[wpIn_wide];obtain⟨i1,bC,bx,R,aw,aF,m,S⟩:=qr E w (.iface F bG) mp b;have aJ:NvI (.iface F bG):=⟨rfl⟩
 have bM:M (ρ w.heap.size=0/\ρ (w.heap.size+1)=0):=⟨aj.o.2 _ yac,aj.o.2 _ (Nat.le_succ _)⟩
 go_upto_block 0 with fail;refine Eq.mp (congrArg (Code.wp _ _ _ _) bC.o) ?_;clear bC;generalize Y:w.heap.size+1=U at*;generalize aW:w.heap.size=bi at bM R m⊢;go_cut [] from 4 to 45 (λb4=>M (Kept 0 0 i1 b4))
 case first=>
  go_wp2_with fail;go_meet;exact ib
 case rest=>
  have s:=hcut.o;have be:=dZ s m R;have bq:=dZ s S aw;have bf:=dZ s S aF;go_wp2_with (first|(go_at_call 268;refine yai nJ ?_;rintro e aa ⟨rfl,af⟩)|(go_at_call 165;refine yai (callsIn_wide.1 (yr Fence.wide 3 trivial rfl)) ?_;rintro e Z ⟨rfl,rfl⟩)|fail);have aT:Kept 0 0 w (aa.alloc (.cells #[.slice a1 n1 c1] 188)):=((bx.trans s).trans af).trans (dE 0 0 aa _);have au:(aa.alloc (.cells #[.slice a1 n1 c1] 188)).cell? ⟨aa.heap.size,0,none⟩=some (.slice a1 n1 c1):=(eo aa #[.slice a1 n1 c1] 188 (ib).chg (S:=λ_=>False) (λc=>c)).1 0;have a5:aa.heap.size<(aa.alloc (.cells #[.slice a1 n1 c1] 188)).heap.size:=by simp
  have bN:=((bx.trans s).trans af).size;have bg:=dZ (af.trans (dE 0 0 aa (.cells #[.slice a1 n1 c1] 188))) (yaj m s.size) be;have bn:=dZ (af.trans (dE 0 0 aa (.cells #[.slice a1 n1 c1] 188))) (yaj S s.size) bf;have aS:bi<(aa.alloc (.cells #[.slice a1 n1 c1] 188)).heap.size:=yaj m (yan s.size (yan af.size (dE 0 0 aa _).size));have a0:U<(aa.alloc (.cells #[.slice a1 n1 c1] 188)).heap.size:=yaj S (yan s.size (yan af.size (dE 0 0 aa _).size));clear be bq bf af s R aw aF;generalize (aa.alloc (.cells #[.slice a1 n1 c1] 188))=aq at*;generalize aa.heap.size=t at*;obtain⟨bs,bw,br,i⟩:=aE.o;have O:=aT.size;have c9:M (Tq E ρ aq st (kTs rs es mp loc (m:=n1) []++aO) G):=h.keep aT
  have V:M (∀y:Fin n1,∃T x,rs[y.1]?.getD .nilIface=.iface T x/\Nd w (λb=>b<E.N) (.iface T x) (es.getD y.1 (.name h8))/\ENk (es.getD y.1 (.name h8))):=λy=>by
   have a:y.1<rs.length:=ip f.rl y.2
   have c6:y.1<es.length:=iv f.nd.1 a
   have ae:=f.nd.2 y.1 rs[y.1] es[y.1] (yal a) (yal c6)
   obtain⟨T,x,ar⟩:=ae.iface
   rw[ar]at ae
   rw[yal a,yah,yal c6]
   exact⟨T,x,ar,ae,f.tk _ (List.getElem_mem c6)⟩
  have aP:M (∀(L:List (Fin n1)),∀y∈kTs rs es mp loc L++aO,∀q,y.p=.map (some q)->q<w.heap.size):=λL y aY q e=>by
   obtain aY|aY:=List.mem_append.1 aY
   ·obtain⟨aX,bR,aB,_⟩:=f.y
    unfold kTs at aY
    obtain⟨v,_,rfl⟩:=List.mem_map.1 aY
    exact i aX bR q (aB.trans e)
   ·exact i y aY q e
  have bk:M (es.length=n1):=by show _=_;rw[<-f.nd.1];exact f.rl
  have aQ:M (∀L:List (Fin n1),L.length<n1->(kTs rs es mp loc L++aO).length<=50000000):=λL aB=>by
   have:=f.l
   unfold kTs
   rw[yak,List.length_map,List.length_reverse]
   omega
  have bl:=Q f.y;have ad:M _:=aj.o.2 t xaa;refine(wpIn_wide (n:=3)).1 ?_
  refine wpIn_rangeFunc_ownG (F:=Fence.wide) rfl xab (gf:=177) (lb:=#[ge t]) rfl trivial (enters_of func177 (by kernel_rfl) rfl)
   (qK Fence.wide (3-1) trivial rfl xab t g n1 c1 a1 rs f.m (Kpp 0 E.N t) (λaH B k aN=>yv k aG aN) aq (λW a7=>a9 W t (λaX o=>(a7.cell (p:=⟨g,o,none⟩) (by have:=(aG aX).2;show g<_;omega)).trans (aT.cell (p:=⟨g,o,none⟩) (by have:=(aG aX).2;show g<_;omega) xaa)) ((a7.cell (p:=⟨t,0,none⟩) a5).trans au)))
   (λh k=>⟨h.1.trans k.1 yac yac,h.2.trans k.2 yac yac⟩) (λW l o ao ab aN _ _=>⟨Same.put W l o ao xaa ab aN,Same.put W l o ao xaa ab aN⟩) (Below.refl _ _) (λ_=>rfl)
   (λL W=>∃ρ',Tq E ρ' W st (kTs rs es mp loc L++aO) G/\Sco ρ aq ρ' W) (λ_ _ _=>False)
   (λL aH B X aN ch ah=>?_) (λ_ _ _ _ _ aN _ _=>aN) ⟨ρ,c9.o,Sco.refl _ _⟩
   (λy:Fin n1=>{tmps:=#[ge E.T,.agg #[JZ aJ,.map mp,.bool b],ge bi,ge U,u4,u5,u6,u7,rs[y.1]?.getD .nilIface,u9,u10,u11,u12,u13,u14,u15,u16,u17,u18,u19,u20,u21,u22,u23,u24,u25,u26,u27,u28,u29,u30,u31,u32,u33,u34,ge U,JZ aJ,.slice a1 n1 c1,.func (.func 177) #[] #[ge t],h0 y.1,rs[y.1]?.getD .nilIface,u41,u42,u43,u44,u45],defers:=[]}) ?_ ?_ ?_ ?_
  ·obtain⟨bX,u,ay⟩:=aN;obtain⟨aC,bb,ap⟩:=u.own ch ah xaa xaa xaa (λy aY q e=>yaj (aP.o L y aY q e) O);exact⟨aC,bb,rA ay ch (λr e=>(ah r e).1) ap⟩
  ·intro l y W ax bd;obtain⟨T,x,ar,_⟩:=V.o y;rw[ar]at bd⊢;gi_wp2
   exact bd
  ·rintro l L y W ⟨bX,u,ay⟩ bD;obtain⟨T,x,ar,ae,aD⟩:=V.o y;have bp:bX bi=0/\bX U=0/\bX t=0:=⟨(ay.ext bi aS).trans bM.o.1,(ay.ext U a0).trans bM.o.2,(ay.ext t a5).trans ad.o⟩
   have bA:=(ay.chg.cell (p:=⟨bi,0,none⟩) aS (λq=>q bM.o.1)).trans bg;have bB:=(ay.chg.cell (p:=⟨U,1,none⟩) a0 (λq=>q bM.o.2)).trans bn
   have aU:∀b,b<E.N->bX b=0:=by
    obtain⟨_,_,_,_,_,_,C⟩:=u;exact C.r0
   have bc:=(ae.keep aT).chg ay.chg (λb q I=>q (aj.o.1 b I))
   have aM:PrM W bX (.map mp) loc:=by
    obtain⟨aX,bR,aB,ab⟩:=bl.o;obtain⟨_,_,_,_,_,_,C⟩:=u;have:=(C.l aX (List.mem_append_right _ bR)).2.1;rw[aB,ab]at this;exact this
   have bj:M _:=F8 u (aQ.o L bD) bc aD aM;have av:=Q ay.chg.size;have aV:=Q ay;have ak:M ((∀b,b<E.N->bX b=0)/\bX t=0):=⟨aU,bp.2.2⟩
   have cv:=ar;have eb:=Q cv;rw[ar];clear u ay bc aM ae aD bp aU ar cv;gi_wp2_with ((try refine⟨trivial,?_⟩);gi_at_call 157;refine(CallsIn.inRound l (callsIn_wide.2 bj.o)).mono ?_;rintro e A ⟨rfl,aC,a8,az,am⟩)
   have bm:E.N<=W.heap.size:=ih av.o
   refine⟨am.from _,⟨⟨bm,az.chg.size,λb _ I=>az.chg.block b xaa (λq=>q (ak.o.1 b I))⟩,⟨ih av.o,az.chg.size,λb z J=>az.chg.block b (ih av.o) (λq=>q (by rw[show b=t by omega];exact ak.o.2))⟩⟩,aC,?_,aV.o.trans az⟩;rw[yu,eb.o];exact a8
  ·rintro aA ys W bo aZ ⟨bX,u,ay⟩ bd;have aK:=Bg (rs:=rs) (mp:=mp) (loc:=loc) bk.o aZ;have g9:=grownBy_putObj' W aA (.deferred none);obtain⟨aC,bb,ap⟩:=u.own g9 (B:=aq.heap.size) (λr e=>by cases e;exact⟨bo,_,bd,rfl⟩) xaa xaa xaa (λy aY q e=>yaj (aP.o ys y aY q e) O);have cp:=rA ay g9 (λr e=>by cases e;exact bo) ap;have aI:M (Tq E aC (W.putObj aA (.deferred none)) st (kTs rs es mp loc ys++aO) G/\Sco ρ w aC (W.putObj aA (.deferred none))/\(kTs rs es mp loc ys).map (·.t)=es.map (mkT loc)):=⟨bb,(Sco.kept aT).trans cp,aK⟩
   have a6:=Q bd;clear u ay bd aK g9 bb ap cp aZ;go_wp2_with fail;refine⟨by simp,.inl ⟨_,_,rfl,run_takeDeferred a6.o,?_⟩⟩;refine⟨_,results_none rfl _ _ _,?_⟩;exact⟨rfl,aC,_,aI.o.1,aI.o.2.1,aI.o.2.2⟩
  rintro aA c L W _ _ aN _;exact aN.elim):Zp:=h
open bI in
theorem ic{E}(h:Tq E ρ w st aO G)(f:EnI E ρ w aO a1 n1 c1 mp loc rs es){F bG p}
  (aR:∀W,Sem.run prog (method 433 F bG "loop.example/s08086/impl.operands") W=.ok (268,.agg #[h0 p,.slice a1 n1 c1]) W)
  (z:F≠213) (J:F≠214) (al:F≠203):
  Calls prog 159 #[ge E.T,.agg #[.iface F bG,.map mp,.bool b]] w (EnO E ρ w st aO G loc es):=by
 have ba:=λW=>gq F bG W z;have bu:=λW=>gF F bG W J;have co:=λW=>fS F bG W al;clear z J al;exact qcc
theorem bJ.qcd(h:Zp:=by
 obtain⟨i1,bC,bx,R,aw,aF,m,S⟩:=qr E w (.iface T (ndA p a1 n1 c1 j)) mp b;have aJ:NvI (.iface T (ndA p a1 n1 c1 j)):=⟨rfl⟩
 have bH:M _:=eo i1 #[h0 p,.slice a1 n1 c1,h0 j.kind,dJ j.text,h0 j.at_] T (ib).chg (S:=λ_=>False) (λc=>c);have an:M _:=dE 0 0 i1 (.cells #[h0 p,.slice a1 n1 c1,h0 j.kind,dJ j.text,h0 j.at_] T);have bM:M (ρ w.heap.size=0/\ρ (w.heap.size+1)=0):=⟨aj.o.2 _ yac,aj.o.2 _ (Nat.le_succ _)⟩
 obtain rfl|rfl|rfl:=C
 all_goals
  refine callsIn_wide.1 (callsIn_of_wp_marks (F:=Fence.wide) (n:=3) func159 rfl trivial ?_ rfl)
  simp only[ntmps159,List.size_toArray,yap,List.length_nil,Nat.reduceAdd,Nat.reduceSub,Array.replicate_succ,Array.replicate_zero,List.push_toArray,List.append_toArray,List.nil_append,List.cons_append]
  rw[wpIn_wide]
  go_upto_block 0 with fail
  refine Eq.mp (congrArg (Code.wp _ _ _ _) bC.o) ?_
  clear bC
  generalize Y:w.heap.size+1=U at*
  generalize aW:w.heap.size=bi at bM R m⊢
  go_cut [] from 4 to 45 (λb4=>M (Kept 0 0 i1 b4))
  case first=>
   have bh:=bH.o
   have aL:=an.o
   go_wp2_with (first|(first|(go_at_call 163;refine yai ((P.o _ (bx.trans (dE 0 0 _ _))).1 xab) ?_)|(go_at_call 164;refine yai ((P.o _ (bx.trans (dE 0 0 _ _))).2 rfl) ?_));rintro e cf ⟨⟨v,rfl⟩,ci⟩;have H:M _:=Kept.trans (dE 0 0 i1 _) ci;clear ci)
   go_meet
   exact H.o
  case rest=>
   have s:=hcut.o
   have be:=dZ s m R
   have bq:=dZ s S aw
   have bf:=dZ s S aF
   go_wp2_with (first|(go_at_call 268;refine yai nJ ?_;rintro e aa ⟨rfl,af⟩)|(go_at_call 165;refine yai (callsIn_wide.1 (yr Fence.wide 3 trivial rfl)) ?_;rintro e Z ⟨rfl,rfl⟩)|fail)
   have aT:Kept 0 0 w (aa.alloc (.cells #[.slice a1 n1 c1] 188)):=((bx.trans s).trans af).trans (dE 0 0 aa _)
   have au:(aa.alloc (.cells #[.slice a1 n1 c1] 188)).cell? ⟨aa.heap.size,0,none⟩=some (.slice a1 n1 c1):=(eo aa #[.slice a1 n1 c1] 188 (ib).chg (S:=λ_=>False) (λc=>c)).1 0
   have a5:aa.heap.size<(aa.alloc (.cells #[.slice a1 n1 c1] 188)).heap.size:=by simp
   have bN:=((bx.trans s).trans af).size
   have bg:=dZ (af.trans (dE 0 0 aa (.cells #[.slice a1 n1 c1] 188))) (yaj m s.size) be
   have bn:=dZ (af.trans (dE 0 0 aa (.cells #[.slice a1 n1 c1] 188))) (yaj S s.size) bf
   have aS:bi<(aa.alloc (.cells #[.slice a1 n1 c1] 188)).heap.size:=yaj m (yan s.size (yan af.size (dE 0 0 aa _).size))
   have a0:U<(aa.alloc (.cells #[.slice a1 n1 c1] 188)).heap.size:=yaj S (yan s.size (yan af.size (dE 0 0 aa _).size))
   clear be bq bf af s R aw aF
   generalize (aa.alloc (.cells #[.slice a1 n1 c1] 188))=aq at*
   generalize aa.heap.size=t at*
   obtain⟨bs,bw,br,i⟩:=aE.o
   have O:=aT.size
   have c9:M (Tq E ρ aq st (kTs rs es mp loc (m:=n1) []++aO) G):=h.keep aT
   have V:M (∀y:Fin n1,∃T x,rs[y.1]?.getD .nilIface=.iface T x/\Nd w (λb=>b<E.N) (.iface T x) (es.getD y.1 (.name h8))/\ENk (es.getD y.1 (.name h8))):=λy=>by
    have a:y.1<rs.length:=ip f.rl y.2
    have c6:y.1<es.length:=iv f.nd.1 a
    have ae:=f.nd.2 y.1 rs[y.1] es[y.1] (yal a) (yal c6)
    obtain⟨T,x,ar⟩:=ae.iface
    rw[ar]at ae
    rw[yal a,yah,yal c6]
    exact⟨T,x,ar,ae,f.tk _ (List.getElem_mem c6)⟩
   have aP:M (∀(L:List (Fin n1)),∀y∈kTs rs es mp loc L++aO,∀q,y.p=.map (some q)->q<w.heap.size):=λL y aY q e=>by
    obtain aY|aY:=List.mem_append.1 aY
    ·obtain⟨aX,bR,aB,_⟩:=f.y
     unfold kTs at aY
     obtain⟨v,_,rfl⟩:=List.mem_map.1 aY
     exact i aX bR q (aB.trans e)
    ·exact i y aY q e
   have bk:M (es.length=n1):=by show _=_;rw[<-f.nd.1];exact f.rl
   have aQ:M (∀L:List (Fin n1),L.length<n1->(kTs rs es mp loc L++aO).length<=50000000):=λL aB=>by
    have:=f.l
    unfold kTs
    rw[yak,List.length_map,List.length_reverse]
    omega
   have bl:=Q f.y
   have ad:M _:=aj.o.2 t xaa
   refine(wpIn_wide (n:=3)).1 ?_
   refine wpIn_rangeFunc_ownG (F:=Fence.wide) rfl xab (gf:=177) (lb:=#[ge t]) rfl trivial (enters_of func177 (by kernel_rfl) rfl)
    (qK Fence.wide (3-1) trivial rfl xab t g n1 c1 a1 rs f.m (Kpp 0 E.N t) (λaH B k aN=>yv k aG aN) aq (λW a7=>a9 W t (λaX o=>(a7.cell (p:=⟨g,o,none⟩) (by have:=(aG aX).2;show g<_;omega)).trans (aT.cell (p:=⟨g,o,none⟩) (by have:=(aG aX).2;show g<_;omega) xaa)) ((a7.cell (p:=⟨t,0,none⟩) a5).trans au)))
    (λh k=>⟨h.1.trans k.1 yac yac,h.2.trans k.2 yac yac⟩) (λW l o ao ab aN _ _=>⟨Same.put W l o ao xaa ab aN,Same.put W l o ao xaa ab aN⟩) (Below.refl _ _) (λ_=>rfl)
    (λL W=>∃ρ',Tq E ρ' W st (kTs rs es mp loc L++aO) G/\Sco ρ aq ρ' W) (λ_ _ _=>False)
    (λL aH B X aN ch ah=>?_) (λ_ _ _ _ _ aN _ _=>aN) ⟨ρ,c9.o,Sco.refl _ _⟩
    (λy:Fin n1=>{tmps:=#[ge E.T,.agg #[JZ aJ,.map mp,.bool b],ge bi,ge U,u4,u5,u6,u7,rs[y.1]?.getD .nilIface,u9,u10,u11,u12,u13,u14,u15,u16,u17,u18,u19,u20,u21,u22,u23,u24,u25,u26,u27,u28,u29,u30,u31,u32,u33,u34,ge U,JZ aJ,.slice a1 n1 c1,.func (.func 177) #[] #[ge t],h0 y.1,rs[y.1]?.getD .nilIface,u41,u42,u43,u44,u45],defers:=[]}) ?_ ?_ ?_ ?_
   ·obtain⟨bX,u,ay⟩:=aN
    obtain⟨aC,bb,ap⟩:=u.own ch ah xaa xaa xaa (λy aY q e=>yaj (aP.o L y aY q e) O)
    exact⟨aC,bb,rA ay ch (λr e=>(ah r e).1) ap⟩
   ·intro l y W ax bd
    obtain⟨T,x,ar,_⟩:=V.o y
    rw[ar]at bd⊢
    gi_wp2
    exact bd
   ·rintro l L y W ⟨bX,u,ay⟩ bD
    obtain⟨T,x,ar,ae,aD⟩:=V.o y
    have bp:bX bi=0/\bX U=0/\bX t=0:=⟨(ay.ext bi aS).trans bM.o.1,(ay.ext U a0).trans bM.o.2,(ay.ext t a5).trans ad.o⟩
    have bA:=(ay.chg.cell (p:=⟨bi,0,none⟩) aS (λq=>q bM.o.1)).trans bg
    have bB:=(ay.chg.cell (p:=⟨U,1,none⟩) a0 (λq=>q bM.o.2)).trans bn
    have aU:∀b,b<E.N->bX b=0:=by
     obtain⟨_,_,_,_,_,_,C⟩:=u
     exact C.r0
    have bc:=(ae.keep aT).chg ay.chg (λb q I=>q (aj.o.1 b I))
    have aM:PrM W bX (.map mp) loc:=by
     obtain⟨aX,bR,aB,ab⟩:=bl.o
     obtain⟨_,_,_,_,_,_,C⟩:=u
     have:=(C.l aX (List.mem_append_right _ bR)).2.1
     rw[aB,ab]at this
     exact this
    have bj:M _:=F8 u (aQ.o L bD) bc aD aM
    have av:=Q ay.chg.size
    have aV:=Q ay
    have ak:M ((∀b,b<E.N->bX b=0)/\bX t=0):=⟨aU,bp.2.2⟩
    have cv:=ar
    have eb:=Q cv
    rw[ar]
    clear u ay bc aM ae aD bp aU ar cv
    gi_wp2_with ((try refine⟨trivial,?_⟩);gi_at_call 157;refine(CallsIn.inRound l (callsIn_wide.2 bj.o)).mono ?_;rintro e A ⟨rfl,aC,a8,az,am⟩)
    have bm:E.N<=W.heap.size:=ih av.o
    refine⟨am.from _,⟨⟨bm,az.chg.size,λb _ I=>az.chg.block b xaa (λq=>q (ak.o.1 b I))⟩,⟨ih av.o,az.chg.size,λb z J=>az.chg.block b (ih av.o) (λq=>q (by rw[show b=t by omega];exact ak.o.2))⟩⟩,aC,?_,aV.o.trans az⟩
    rw[yu,eb.o]
    exact a8
   ·rintro aA ys W bo aZ ⟨bX,u,ay⟩ bd
    have aK:=Bg (rs:=rs) (mp:=mp) (loc:=loc) bk.o aZ
    have g9:=grownBy_putObj' W aA (.deferred none)
    obtain⟨aC,bb,ap⟩:=u.own g9 (B:=aq.heap.size) (λr e=>by cases e;exact⟨bo,_,bd,rfl⟩) xaa xaa xaa (λy aY q e=>yaj (aP.o ys y aY q e) O)
    have cp:=rA ay g9 (λr e=>by cases e;exact bo) ap
    have aI:M (Tq E aC (W.putObj aA (.deferred none)) st (kTs rs es mp loc ys++aO) G/\Sco ρ w aC (W.putObj aA (.deferred none))/\(kTs rs es mp loc ys).map (·.t)=es.map (mkT loc)):=⟨bb,(Sco.kept aT).trans cp,aK⟩
    have a6:=Q bd
    clear u ay bd aK g9 bb ap cp aZ
    go_wp2_with fail
    refine⟨by simp,.inl ⟨_,_,rfl,run_takeDeferred a6.o,?_⟩⟩
    refine⟨_,results_none rfl _ _ _,?_⟩
    exact⟨rfl,aC,_,aI.o.1,aI.o.2.1,aI.o.2.2⟩
   ·rintro aA c L W _ _ aN _
    exact aN.elim):Zp:=h
open bJ in
theorem F9{E}(h:Tq E ρ w st aO G)(f:EnI E ρ w aO a1 n1 c1 mp loc rs es){p j}(C:T=213\/T=214\/T=203)
  (P:M (∀W,Kept 0 0 w W->(T≠203->Calls prog 163 #[ge E.T,tkV j,.map mp] W λe D=>(∃v:Nat,e=.returned (h0 v))/\Kept 0 0 W D)/\(T=203->Calls prog 164 #[ge E.T,ndA p a1 n1 c1 j] W λe D=>(∃v,e=.returned v)/\Kept 0 0 W D))):
  Calls prog 159 #[ge E.T,.agg #[.iface T (ndA p a1 n1 c1 j),.map mp,.bool b]] w (EnO E ρ w st aO G loc es):=by
 unfold tkV at P;exact qcc
theorem Bh{E}(h:Tq E ρ w st aO G)(f:EnI E ρ w aO a1 n1 c1 mp loc rs es){p}(ai:n.sym≠[]){v}(aD:dX st loc n=.ok v)(C:T=213\/T=214):
  Calls prog 159 #[ge E.T,.agg #[.iface T (ndA p a1 n1 c1 (cvT n)),.map mp,.bool b]] w (EnO E ρ w st aO G loc es):=by
 refine F9 h f (C.imp id .inl) λW k=>⟨λ_=>?_,λc=>by obtain e|e:=C<;>(rw[e]at c;exact absurd c xab)⟩
 obtain⟨aX,bR,aB,ab⟩:=f.y
 have aM:PrM w ρ (.map mp) loc:=by
  obtain⟨_,_,_,_,_,_,C⟩:=h;have:=(C.l aX bR).2.1;rw[aB,ab]at this;exact this
 refine yai (nQ (h.keep k) (aM.chg (k.chg (S:=λ_=>False)) (λ_ q=>q.elim) (λ_ _=>rfl)) ai) (λe D ⟨ad,ah⟩=>?_);grind
theorem CU{E}(h:Tq E ρ w st aO G)(f:EnI E ρ w aO a1 n1 c1 mp loc rs es){p}(ai:n.sym≠[]){aX}(aD:fnE st n.text n1=some aX):
  Calls prog 159 #[ge E.T,.agg #[.iface 203 (ndA p a1 n1 c1 (cvT n)),.map mp,.bool b]] w (EnO E ρ w st aO G loc es):=by
 refine F9 h f (.inr (.inr rfl)) λW k=>⟨λc=>absurd rfl c,λ_=>?_⟩
 refine yai (nj (h.keep k) ai p _ _ _) (λe D aN=>?_);obtain⟨ad,ah⟩:=aN;grind
theorem uM{E:Tqe}{p j c0}(C:T=213\/T=214\/T=203)
  (P:M (∀W,Kept 0 0 w W->(T≠203->Calls prog 163 #[ge E.T,tkV j,.map mp] W λe D=>e=Thr c0 (bT:Nat)/\Kept 0 0 w D)/\(T=203->Calls prog 164 #[ge E.T,ndA p a1 n1 c1 j] W λe D=>e=Thr c0 (bT:Nat)/\Kept 0 0 w D))):
  Calls prog 159 #[ge E.T,.agg #[.iface T (ndA p a1 n1 c1 j),.map mp,.bool b]] w λe D=>e=Thr c0 (bT:Nat)/\Kept 0 0 w D:=by
 unfold tkV at P;obtain⟨i1,bC,bx,R,aw,aF,m,S⟩:=qr E w (.iface T (ndA p a1 n1 c1 j)) mp b;obtain rfl|rfl|rfl:=C
 all_goals
  refine callsIn_wide.1 (callsIn_of_wp_marks (n:=3) func159 rfl trivial ?_ rfl)
  simp only[ntmps159,List.size_toArray,yap,List.length_nil,Nat.reduceAdd,Nat.reduceSub,Array.replicate_succ,Array.replicate_zero,List.push_toArray,List.append_toArray,List.nil_append,List.cons_append]
  rw[wpIn_wide]
  go_upto_block 0 with fail
  refine Eq.mp (congrArg _ bC.o) ?_
  clear bC
  generalize Y:w.heap.size+1=U at*
  generalize aW:w.heap.size=bi at R m⊢
  go_wp2_with (first|(first|(go_at_call 163;refine yai ((P.o _ (bx.trans (dE 0 0 _ _))).1 xab) ?_)|(go_at_call 164;refine yai ((P.o _ (bx.trans (dE 0 0 _ _))).2 rfl) ?_));rintro e cf ⟨rfl,ci⟩;exact(h1 rfl ci:_/\_))
theorem uN{E}(h:Tq E ρ w st aO G)(aM:PrM w ρ (.map mp) loc){p}(ai:n.sym≠[]){c0}(aD:dX st loc n=.error (c0,bT))(C:T=213\/T=214):
  Calls prog 159 #[ge E.T,.agg #[.iface T (ndA p a1 n1 c1 (cvT n)),.map mp,.bool b]] w λe D=>e=Thr c0 (bT:Nat)/\Kept 0 0 w D:=by
 refine uM (C.imp id .inl) λW k=>⟨λ_=>?_,λc=>by obtain e|e:=C<;>(rw[e]at c;exact absurd c xab)⟩
 refine yai (nQ (h.keep k) (aM.chg (k.chg (S:=λ_=>False)) (λ_ q=>q.elim) (λ_ _=>rfl)) ai) (λe D ⟨ad,ah⟩=>?_);rw[aD]at ah;obtain⟨ae,K,a6⟩|⟨c,q,K,a6⟩:=ah
 ·cases K
 cases K;exact⟨a6,k.trans ad⟩
theorem wA{E}(h:Tq E ρ w st aO G){p}(ai:n.sym≠[])(aD:fnE st n.text n1=none):
  Calls prog 159 #[ge E.T,.agg #[.iface 203 (ndA p a1 n1 c1 (cvT n)),.map mp,.bool b]] w λe D=>e=Thr 3 (n.pos:Nat)/\Kept 0 0 w D:=by
 refine uM (.inr (.inr rfl)) λW k=>⟨λc=>absurd rfl c,λ_=>?_⟩
 refine yai (nj (h.keep k) ai p _ _ _) (λe D aN=>?_);obtain⟨ad,ah⟩:=aN;rw[aD]at ah;exact⟨ah,k.trans ad⟩
end
section
open Go.RowKit Flt
attribute[local go_sem] dI dG dF gh gj gn mkF
variable{ρ:Nat->Nat}{aO:List TkV}{G:List Nat}
theorem k.qah(h:Zp:=by
 obtain d|d:=Nat.lt_or_ge fr cap
 ·have bP:M _:=aE.o fr (cap-fr) (.inl rfl);clear aE;go_enter func160,ntmps160;go_wp2_with (go_at_call 105;go_loud (refine yai bP.o ?_;rintro e Z ⟨bv,bZ,rfl,bz,aJ,au,be⟩;obtain⟨i,f⟩:=T.o _ be;have br:M _:=h1 bz (h1 aJ (h1 au be));clear bz aJ au be));go_ret;obtain⟨bz,aJ,au,be⟩:=br.o;obtain⟨bg,a8,bE⟩:=b5.o _ be;exact⟨_,rfl,vX (by rw[List.length_drop,<-O.o.1]) au s.o (dV _ _ _ _ F.o),⟨u1,u3,Y,bm,_,bg,a8⟩,bE,Chg.andThen be.chg (dV _ _ _ _ rfl)⟩
 have aW:cap=fr:=xaa;have bA:m=fr:=xaa;have bs:n=0:=xaa;have bP:M _:=sR w g 0 0 0 (G.drop fr) xaa (by rw[List.length_drop];have:=O.o;omega) aG (λk H=>by omega);subst aW;subst bA;subst bs;clear aE d;go_enter func160,ntmps160;go_wp2_with (go_at_call 105;go_loud (refine yai bP.o ?_;rintro e Z ⟨bv,bZ,rfl,bz,aJ,au,be⟩;obtain⟨i,f⟩:=T.o _ be;have br:M _:=h1 bz (h1 aJ (h1 au be));clear bz aJ au be));go_ret;obtain⟨bz,aJ,au,be⟩:=br.o;obtain⟨bg,a8,bE⟩:=b5.o _ be;exact⟨_,rfl,vX (by rw[List.length_drop,<-O.o.1];omega) au s.o (dV _ _ _ _ F.o),⟨u1,u3,Y,bm,_,bg,a8⟩,bE,Chg.andThen be.chg (dV _ _ _ _ rfl)⟩):Zp:=h
open k in
theorem J0{E}(h:Tq E ρ w st aO G)(n)(V:n<=G.length)(ab:G.length<=6000000):
  Calls prog 160 #[ge E.T,h0 n] w λe D=>∃v,e=.returned v/\OfR D ρ v (G.drop (G.length-n))/\Tq E ρ D st aO (G.take (G.length-n))/\Sco ρ w ρ D/\Chg (λb=>b=E.T) w D:=by
 obtain⟨u1,u3,Y,bm,am,ax,C⟩:=h;have aZ:=C.t5;have bS:=C.fz 5;obtain⟨K,a6⟩|⟨g,cap,bp,K,L,bi,U,ae,aF,ah⟩:=C.x.2
 ·subst K;have I:=List.length_eq_zero_iff.1 a6;subst I;have ay:n=0:=by simpa using V
  subst ay;have b5:M _:=Tq.cut (xs':=[]) (xv':=.slice none 0 0) ax C (Kept.refl 0 0 w) (yau w (b:=E.N) 3 (s:=1)) (λb q=>q);have cz:M (OfR w ρ (.slice none 0 0) []):=⟨yau w (b:=0) 3 (s:=1),λb q=>by cases q⟩
  have aV:=C.lt;clear ax C V a6;go_enter func160,ntmps160;go_wp2_with (go_at_call 105;refine yai xY ?_;rintro e Z ⟨rfl,X⟩;obtain rfl:=X.symm);go_ret;obtain⟨bg,a8,bE⟩:=b5.o;exact⟨_,rfl,cz.o.sco bE,⟨u1,u3,Y,bm,_,bg,a8⟩,bE,dV _ _ _ _ rfl⟩
 exact qag
theorem CV{E}(h:Tq E ρ w st aO G){F bG p a1 n1 c1 mp b}(V:n1<=G.length)(ab:G.length<=6000000)(aR:∀W,Sem.run prog (method 433 F bG "loop.example/s08086/impl.operands") W=.ok (268,.agg #[h0 p,.slice a1 n1 c1]) W)(az:∀W,Sem.run prog (Instr.typeAssert (.iface F bG) 134 203 true) W=.ok (.tuple #[.agg #[h0 0,.slice none 0 0,h0 0,.string ⟨#[]⟩,h0 0],.bool false]) W){r}(aD:∀W a5,Tq E ρ W st aO (G.take (G.length-n1))->OfR W ρ a5 (G.drop (G.length-n1))->Sco ρ w ρ W->Chg (λb=>b=E.T) w W->Calls prog 162 #[ge E.T,.agg #[.iface F bG,.map mp,.bool b],a5] W (TqR E ρ W aO (G.take (G.length-n1)) r)):
  Calls prog 158 #[ge E.T,.agg #[.iface F bG,.map mp,.bool b]] w (LvO E ρ w aO (G.take (G.length-n1)) r):=by
 have bB:M (ρ w.heap.size=0):=by
  obtain⟨_,_,_,_,_,_,C⟩:=h;exact C.rN _ yac
 have aw:M _:=mj w (.iface F bG) (.map mp) (.bool b);have bq:M (∀W,Kept 0 0 w W->_):=λW k=>J0 (h.keep k) n1 V ab;have cd:=Q aD;have fT:M ((G.take (G.length-n1)).length<=6000000):=by show _<=_;rw[List.length_take];omega
 obtain⟨bS,hi,ch,b6,ci⟩:=info_parts qy;clear h aD V ab;generalize G.take (G.length-n1)=X at*;generalize G.drop (G.length-n1)=ys at*;go_enter func158,ntmps158
 go_upto_region 2 with (first
  |(go_at_call 268;refine yai nJ ?_;rintro e aa ⟨rfl,af⟩;obtain⟨(a:M _),aP,aQ,aU,bN⟩:=aw.o _ af;have bV:M _:=h1 aP (h1 aQ (h1 aU bN));clear af aQ aU)
  |(go_at_call 160;refine yai (bq.o _ a.o) ?_;rintro e Z ⟨v,rfl,av,an,ai⟩;obtain⟨a2,c2,rfl⟩:=av.any;have aT:M _:=h1 av (h1 an ai);clear av an ai))
 obtain⟨av,an,ai,bb⟩:=aT.o;obtain⟨aP,aQ,aU,bN⟩:=bV.o;have J:∀o v,aa.cell? ⟨w.heap.size,o,none⟩=some v->_:=λo v aD=>(ai.chg.cell (p:=⟨w.heap.size,o,none⟩) bN (λq=>q bB.o)).trans aD;have bT:=J 0 _ aP;have bg:=J 1 _ aQ;have a8:=J 2 _ aU;have bE:=yaj bN ai.chg.size;have aL:=dE 0 0 Z (.cells #[h0 0,.slice none 0 0,h0 0,.string ⟨#[]⟩,h0 0] 203);have b2:=dZ aL bE bT;have r1:=dZ aL bE bg;have bp:=dZ aL bE a8;have bo:=yaj bE aL.size;have m:M (Tq E ρ (Z.alloc (.cells #[h0 0,.slice none 0 0,h0 0,.string ⟨#[]⟩,h0 0] 203)) st aO X):=an.keep aL;have T:M _:=((Sco.kept a.o).trans ai).trans (Sco.kept aL);have y:M _:=λW k=>cd.o W _ ((an.keep aL).keep k) ((av.sco (Sco.kept aL)).sco (Sco.kept k)) ((((Sco.kept a.o).trans ai).trans (Sco.kept aL)).trans (Sco.kept k)) (Chg.andThen a.o.chg (Chg.andThen bb (Chg.andThen aL.chg k.chg)));clear aT bV av an ai bb aP aQ aU bN J bg a8 cd bq aw;go_upto_region 5 with fail;change Code.wp _ _ _ _ (Z.alloc (.cells #[h0 0,.slice none 0 0,h0 0,.string ⟨#[]⟩,h0 0] 203));clear bT bE aL;generalize (Z.alloc (.cells #[h0 0,.slice none 0 0,h0 0,.string ⟨#[]⟩,h0 0] 203))=ao at*;obtain⟨u1,u3,Y,bm,am,s,aq⟩:=m.o;have aZ:=aq.t5;have aN:=aq.lt;have g:M (ao.cell? ⟨E.T,5,none⟩=some am/\E.T<ao.heap.size):=⟨aZ,aN⟩
 clear s aq
 go_region_law (first
   |((fail_if_success (exfalso;refine absurd l.size ?_));go_simp;go_wp2_with (first|(go_at_call 162;refine yai (y.o _ (by first|exact ib|exact ib.drew)) ?_;rintro e aA (⟨A,bX,R,bU,rfl,ds,aj,i1⟩|⟨c,q,bU,rfl,cO⟩);rotate_left;exact h1 rfl (.inr ⟨c,q,bU,rfl,T.o.bad (Chg.andThen (Kept.chg (by first|exact ib|exact ib.drew)) cO)⟩);have l:=aj.chg;obtain⟨u15,u35,i,f,t,x⟩:=Tq.sameX ds i1 g.o.2 (show World.cell? _ _=_ from g.o.1);have D:M _:=h1 bU (h1 t (h1 x aj));have z:=x.t5;have B:=dZ (dE 0 0 aA (.cells #[h0 bX] 3)) x.lt x.t5;have aV:=x.lt)|fail))
   |(rw[h3 (by simp[Region.wanted])];refine wp_append_lies (aA.alloc (.cells #[h0 bX] 3)) (.tmp 28) (.tmp 33) 23 rfl E.N 3 bS (h0 0) 1 8 underlying23 hi ch b6 ci rfl xab am X.length (ie X) ?_ (dW D.o.2.2.1.x (dE 0 0 aA (.cells #[h0 bX] 3))) ⟨aA.heap.size,0,none⟩ 1 1 [h0 bX] ?_ rfl (cell_one_new _ _ _) ?_ xab ?_ ?_ ?_ _ rfl ?_;(first|rfl|simp[Act.eval]);(first|rfl|simp[Act.eval]);(intro u bd;cases bd with|head=>rfl|tail _ h=>cases h);(have:=fT.o;unfold maxLen;omega);(have:=fT.o;omega);exact yan D.o.2.2.1.sz (dE 0 0 aA _).size;intro g9 cap9 bn aB a0 bs cr;have m3:=Pp D.o.2.2.1 a0;have aY:=Pq D.o.2.2.1 a0))
 all_goals
  obtain⟨bU,t,x,aj⟩:=D.o
  have aL:=dE 0 0 aA (.cells #[h0 bX] 3)
  obtain⟨P,aS,bO,bP⟩:=Tq.pushX (a:=bX) (n:=X.length+1) (t.chg (aL.chg (S:=λ_=>False)) (λ_ _ q=>q.elim) (λ_ _=>rfl)) (x.chg (aL.chg (S:=λ_=>False)) (λ_ _ q=>q.elim) (λ_ _=>rfl) (λb I=>x.rN b (yan aL.size I))) (eD a0) bs cr (by rw[yak];rfl) (by unfold ie at aB⊢;rw[List.map_append];exact aB)
  have j:M _:=h1 aS (h1 bO ((T.o.trans (Sco.trans (Sco.kept (by first|exact ib|exact ib.drew)) aj)).trans ((Sco.kept aL).trans bP)))
  have n:=Q bU
  clear aS bO bP aL aB a0 bs cr bU t x aj
  go_wp2
  go_end0
  exact .inl ⟨A,bX,P,by first|exact n.o|rfl,rfl,⟨_,_,_,_,_,j.o.1,j.o.2.1⟩,j.o.2.2⟩
