import Derived.Test.YtiacbhjphaldlaaGreatDoorP50
namespace Go.Proofs.Z
variable{Zp:Prop}
open Tryz
set_option maxRecDepth 1000000
set_option maxHeartbeats 0
open Go.RowKit Flt
attribute[local go_sem] dI dG dF gh gj gn mkF
theorem bS.qcj(h:Zp:=by
 exact⟨rfl,.inr ⟨5,ap,rfl,rfl,ay.o.chg⟩⟩):Zp:=h
open bS in
theorem J4{E ρ w st}(h:Tq E ρ w st [] [])(av:st.outs.length<=50){n}(ai:n.sym≠[]){F aP bM}(ae:Nd w (λb=>b<E.N) (.iface F aP) bM)(H:ENk bM)(aj:CnG st [mkT [] bM] []){q r}(ah:jw q st [mkT [] bM] []=some (qP r))(aq:∀aG a,r=.ok (aG,a)->aG.outs=st.outs):
  Calls prog 155 #[.agg #[h0 (cvT n).kind,dJ (cvT n).text,h0 ((cvT n).at_:Int),.iface F aP],ge E.T] w (StX E ρ w (if 50<=st.outs.length then .error (5,n.pos)else EP r)):=by
 have bB:M (ρ w.heap.size=0):=by
  obtain⟨_,_,_,_,_,_,C⟩:=h;exact C.rN _ yac
 have bW:M (∀W,Kept 0 0 w W->_):=λW k=>zX (h.keep k) (ae.keep k) H aj ah;have cT:=Q aq;rw[jU ai];obtain⟨ts,ap,J⟩:=n;simp only;generalize eV J=i1 at*;have aL:=dE 0 0 w (.cells #[h0 i1,dJ J,h0 ap,.iface F aP] 137);obtain⟨L,_,U⟩:=eo w #[h0 i1,dJ J,h0 ap,.iface F aP] 137 (ib).chg (S:=λ_=>False) (λc=>c);obtain⟨Y,bm,am,ax,C⟩:=(h.keep aL).open'
 obtain⟨ad,B,ar⟩:∃ad B,E.u3=.slice ad st.outs.length B:=by
  obtain⟨K,a6⟩|⟨g,cap,bp,K,_⟩:=ax.o.2
  ·exact⟨none,0,by rw[K,a6]⟩
  exact⟨_,cap,K⟩
 have bJ:=C.t0;have p2:=ax.b.c2;rw[ar]at p2;have aI:(w.alloc (.cells #[h0 i1,dJ J,h0 ap,.iface F aP] 137)).cell? ⟨w.heap.size,2,none⟩=some (h0 ap):=L 2;have aE:(w.alloc (.cells #[h0 i1,dJ J,h0 ap,.iface F aP] 137)).cell? ⟨w.heap.size,3,none⟩=some (.iface F aP):=L 3;have S:=U;have ay:=Q aL;have bl:=Q ar;obtain⟨bS,hi,ch,b6,ci⟩:=info_parts qy;clear h ae H aj ah aq ai L U aL ax C ar;by_cases c:50<=st.outs.length
 ·have p:st.outs.length=50:=xaa;rw[h3 c];rw[p]at p2;go_enter func155,ntmps155;exact qci
 rw[h2 c];have c5:((st.outs.length:Int)==50)=false:=yam xaa;have o:M (st.outs.length<50):=by show _<_;omega
 clear c av;go_enter func155,ntmps155;go_upto_region 3 with fail;change Code.wp _ _ _ _ (w.alloc (.cells #[h0 i1,dJ J,h0 ap,.iface F aP] 137));generalize (w.alloc (.cells #[h0 i1,dJ J,h0 ap,.iface F aP] 137))=aa at*;generalize w.heap.size=bh at bB aI aE S⊢
 have bf:M (∀{W:World}{R:Nat->Nat}{A:LSt}{i f m:Value},TqB E R W A.ins A.vs A.outs E.u1 E.u3 i->TqT E R W A.names A.calls [] [] f m->((Value.slice ad st.outs.length B).ownBlock≠some E.T/\E.T<W.heap.size/\W.cell? ⟨E.T,0,none⟩=some (ge E.P))/\((Value.slice ad st.outs.length B).ownBlock≠some E.P/\E.P<W.heap.size/\W.cell? ⟨E.P,2,none⟩=some (.slice ad st.outs.length B)/\W.frozen? ⟨E.P,2,none⟩=false)):=λ{W R A i f m} ax C=>by
  have e:=bl.o
  have av:=ax.ro
  have c2:=ax.b.c2
  rw[e]at av c2
  exact⟨⟨λq=>ip (av _ q) C.rT,C.lt,C.t0⟩,λq=>ip (av _ q) ax.rP,ax.b.lt,c2,ax.b.free 2⟩
 go_region_law (first
  |((fail_if_success (exfalso;refine absurd l.size ?_));go_simp;go_wp2_with (first|(go_at_call 156;refine yai (bW.o _ (ay.o.trans (by first|exact ib|exact ib.drew))) ?_;rintro e aA (⟨A,bX,R,bU,rfl,bL,bE⟩|⟨c,q,bU,rfl,c5⟩);rotate_left;exact h1 rfl (.inr ⟨c,q,i0 bU,rfl,(Sco.kept (ay.o.trans (by first|exact ib|exact ib.drew))).bad c5⟩);have l:=bE.chg;obtain⟨i,f,m,t,x⟩:=bL.open';have aZ:M _:=(Sco.kept (ay.o.trans (by first|exact ib|exact ib.drew))).trans bE;obtain⟨⟨bz,aJ,au⟩,be,b1,cI,aH⟩:=bf.o t x;have bq:=dZ (dE 0 0 aA (.cells #[h0 bX] 3)) aJ au;have bu:=dZ (dE 0 0 aA (.cells #[h0 bX] 3)) b1 cI;have D:M _:=h1 bU (h1 t x);have br:M _:=h1 (h1 bz (h1 aJ au)) (h1 be (h1 b1 (h1 cI aH)));have aO:M (aA.ownsRow E.N 3 1 (.slice ad st.outs.length B) st.outs.length (kT st.outs)):=(by have:=t.o;rw[bl.o,cT.o A bX bU]at this;exact this);clear bz be aH bU bL bE t x)|fail))
  |(rw[h3 (by simp[Region.wanted])];refine wp_append_lies (aA.alloc (.cells #[h0 bX] 3)) (.tmp 29) (.tmp 34) 23 rfl E.N 3 bS (h0 0) 1 8 underlying23 hi ch b6 ci rfl xab (.slice ad st.outs.length B) st.outs.length (kT st.outs) ?_ (dW aO.o (dE 0 0 aA (.cells #[h0 bX] 3))) ⟨aA.heap.size,0,none⟩ 1 1 [h0 bX] ?_ rfl (cell_one_new _ _ _) ?_ xab ?_ ?_ ?_ _ rfl ?_;(first|rfl|simp[Act.eval]);(first|rfl|simp[Act.eval]);(intro u bd;cases bd with|head=>rfl|tail _ h=>cases h);(have:=o.o;unfold maxLen;omega);(have:=o.o;omega);exact yan D.o.2.2.sz (dE 0 0 aA _).size;intro g9 cap9 bn aB a0 bs cr;have aK:=Bj br.o.1.2.2 br.o.1.2.1 br.o.1.1 a0;have bv:=Bj br.o.2.2.2.1 br.o.2.2.1 br.o.2.1 a0;have m3:=K6 br.o.2.2.2.2 br.o.2.2.1 br.o.2.1 a0))
 all_goals
  obtain⟨bU,t,x⟩:=D.o
  have aL:=dE 0 0 aA (.cells #[h0 bX] 3)
  have z:=cT.o A bX bU
  obtain⟨P,aS,bO⟩:=Tq.outs (st:=A) (a:=bX) (n:=st.outs.length+1) (t.chg (aL.chg (S:=λ_=>False)) (λ_ _ q=>q.elim) (λ_ _=>rfl)) (x.chg (aL.chg (S:=λ_=>False)) (λ_ _ q=>q.elim) (λ_ _=>rfl) (λb I=>x.rN b (yan aL.size I))) (by rw[bl.o];exact eD a0) (it bl.o bs) cr (by rw[z,yak];rfl) (by rw[z];unfold kT at aB⊢;rw[List.map_append];exact aB)
  have j:M _:=h1 bU (h1 aS (aZ.o.trans ((Sco.kept aL).trans bO)))
  clear aS bO aL aB a0 bs cr bU t x z
  go_wp2
  go_end0
  refine .inl ⟨_,P,_,?_,?_,rfl,j.o.2.1,j.o.2.2⟩
  ·exact⟨rfl,rfl,rfl,rfl,rfl⟩
  ·rw[j.o.1]
   rfl
