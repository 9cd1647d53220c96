import Derived.Test.YtiacbhjphaldlaaGreatDoorP48
import Derived.Test.YtiacbhjphaldlaaGreatDoorCards
import Derived.Test.YtiacbhjphaldlaaGreatDoorTie
namespace Go.Proofs.Z
open YtiacbhjphaldlaaGreatDoor
open Tryz
set_option maxRecDepth 1000000
set_option maxHeartbeats 0
variable{a ab n w G T aX bv x y B a1 a2 a3 c cap f i1 o q r}
section
open Go.RowKit Flt
variable{w D:World}{B c:Nat}{a:Option Addr}
structure GR where
 ins:List Int
 vs:List Vl
 outs:List Int
 code:Int
 at_:Int
def lK:Rs LSt->GR
 |.error (c,p)=>⟨[],[],[],c,(p:Nat)⟩
 |.ok st=>⟨st.ins,st.vs,st.outs,0,0⟩
def OG3(W:World)(B:Nat)(a1:Option Addr)(a2:Option Addr)(a3:Option Addr)(J:GR):Prop:=
 ∀H,W.heap.size<=H->∃g1 g2 g3,OG W g1 g2 g3 a1 J.ins.length a2 J.vs.length a3 J.outs.length J.ins J.vs J.outs/\(B<=g1/\B<=g2/\B<=g3)/\((g1<W.heap.size\/H<g1)/\(g2<W.heap.size\/H<g2)/\(g3<W.heap.size\/H<g3))
def PJ(w:World)(J:GR)(e:Ending)(w':World):Prop:=
 (∃a1 c1 a2 c2 a3 c3,e=.returned (.tuple #[fj a1 J.ins.length c1 a2 J.vs.length c2 a3 J.outs.length c3,.int .i64 J.code,.int .i64 J.at_])/\(∀v∈J.vs,v.k<18446744073709551616)/\OG3 w' w.heap.size a1 a2 a3 J)/\Kept 0 0 w w'
theorem Ge{W}(h:W.ownsRow B 3 1 (.slice a G.length c) G.length (G.map (Value.int .i64)))(Y j)(ax:B<=Y):∃g,IZ W g a G.length G/\B<=g/\(g<W.heap.size\/Y<g)/\((Value.slice a G.length c).ownBlock=some g\/g=Y+1+j):=by
 obtain aC|⟨g,e,I,b⟩:=Lj h rfl
 ·exact⟨_,.inl aC,by omega,.inr xaa,.inr rfl⟩
 subst e;exact⟨g,.inr ⟨rfl,b⟩,I,.inl b.lt,.inl rfl⟩
theorem Ny{W vs}(h:W.ownsRow B 74 6 (.slice a vs.length c) vs.length (f9 vs))(Y j)(ax:B<=Y):∃g,VZ W g a vs.length vs/\B<=g/\(g<W.heap.size\/Y<g)/\((Value.slice a vs.length c).ownBlock=some g\/g=Y+1+j):=by
 obtain aC|aC:=Nat.eq_zero_or_pos vs.length
 ·exact⟨_,.inl aC,by omega,.inr xaa,.inr rfl⟩
 obtain⟨g,f,e,_,I,_,bo⟩:=jX h aC rfl;injection e with K a6 ag;subst K;exact⟨g,.inr ⟨rfl,bo⟩,(dO h rfl).1,.inl bo.lt,.inl rfl⟩
theorem Gf{W c1 c2 c3}(ax:B<=W.heap.size)(ca:W.ownsRow B 3 1 (.slice a1 ab.ins.length c1) ab.ins.length (ab.ins.map (Value.int .i64)))(b6:W.ownsRow B 74 6 (.slice a2 ab.vs.length c2) ab.vs.length (f9 ab.vs))(aO:W.ownsRow B 3 1 (.slice a3 ab.outs.length c3) ab.outs.length (ab.outs.map (Value.int .i64)))(C:Apart (.slice a1 ab.ins.length c1) (.slice a2 ab.vs.length c2))(A:Apart (.slice a1 ab.ins.length c1) (.slice a3 ab.outs.length c3))(b:Apart (.slice a2 ab.vs.length c2) (.slice a3 ab.outs.length c3)):OG3 W B a1 a2 a3 ab:=by
 intro Y H;obtain⟨bz,ay,L,b9,K⟩:=Ge ca Y 0 xaa;obtain⟨aJ,i1,bi,cl,a6⟩:=Ny b6 Y 1 xaa;obtain⟨au,t,U,el,ag⟩:=Ge aO Y 2 xaa;have bg:∀k,(Value.slice a1 _ _).ownBlock=some k->_:=λk h=>(dO ca h).2;have a8:∀k,(Value.slice a2 _ _).ownBlock=some k->_:=λk h=>(dO b6 h).2;have bE:∀k,(Value.slice a3 _ _).ownBlock=some k->_:=λk h=>(dO aO h).2;refine⟨_,_,_,⟨ay,i1,t,λe=>?_,λe=>?_,λe=>?_⟩,⟨L,bi,U⟩,b9,cl,el⟩
 ·subst e;obtain K|K:=K<;>obtain a6|a6:=a6
  ·exact C _ K a6
  ·grind
  ·grind
  omega
 ·subst e;obtain K|K:=K<;>obtain ag|ag:=ag
  ·exact A _ K ag
  ·grind
  ·grind
  omega
 subst e;obtain a6|a6:=a6<;>obtain ag|ag:=ag
 ·exact b _ a6 ag
 ·grind
 ·grind
 omega
theorem J5{W}(ax:B<=W.heap.size)(c p):OG3 W B none none none ⟨[],[],[],c,p⟩:=
 λY H=>⟨Y+1,Y+2,Y+3,⟨.inl rfl,.inl rfl,.inl rfl,by omega,by omega,by omega⟩,by omega,by omega⟩
theorem zY(c p)(k:Kept 0 0 w D):PJ w (lK (.error (c,p))) (.returned (.tuple #[Oi,h0 c,h0 (p:Nat)])) D:=
 ⟨⟨none,0,none,0,none,0,rfl,(λv aD=>by cases aD),J5 k.size c p⟩,k⟩
def GLe(J:GR):Prop:=J.ins.length<=20/\J.vs.length<=2000/\J.outs.length<=50
theorem pJ{W:World}{T size n b j:Nat}{v}(h:W.ownsRow b T size v n G)(I:j<=b):W.ownsRow j T size v n G:=⟨h.1,h.2.imp id (λ⟨g,cap,bp,z,J,al⟩=>⟨g,cap,bp,z,yan I J,al⟩)⟩
theorem Pv{st u1 Y u3}(ah:r=.ok st)(ca:D.ownsRow w.heap.size 3 1 u1 st.ins.length (kT st.ins))(b6:D.ownsRow w.heap.size 74 6 Y st.vs.length (f9 st.vs))(aO:D.ownsRow w.heap.size 3 1 u3 st.outs.length (kT st.outs))(aj:∃c:Nat->Nat,(∀b,u1.ownBlock=some b->c b=6)/\(∀b,Y.ownBlock=some b->c b=5)/\(∀b,u3.ownBlock=some b->c b=7))(g:Gd st)(H:Kept 0 0 i1 w)(k:Kept 0 0 w D):
  ∃a1 c1 a2 c2 a3 c3,u1=.slice a1 (lK r).ins.length c1/\Y=.slice a2 (lK r).vs.length c2/\u3=.slice a3 (lK r).outs.length c3/\(∀v∈(lK r).vs,v.k<18446744073709551616)/\OG3 D i1.heap.size a1 a2 a3 (lK r)/\GLe (lK r):=by
 subst ah;obtain⟨a1,c1,rfl⟩:=jM ca;obtain⟨a2,c2,rfl⟩:=jM b6;obtain⟨a3,c3,rfl⟩:=jM aO;obtain⟨c,af,ad,a5⟩:=aj;have ab:=H.size;have C:=k.size;refine⟨_,_,_,_,_,_,rfl,rfl,rfl,g.k,Gf xaa (pJ ca ab) (pJ b6 ab) (pJ aO ab) ?_ ?_ ?_,g.i,g.n,g.o⟩
 ·intro b K a6;have:=af b K;have:=ad b a6;omega
 ·intro b K a6;have:=af b K;have:=a5 b a6;omega
 intro b K a6;have:=ad b K;have:=a5 b a6;omega
def GoP(w:World)(r:Rs LSt)(e:Ending)(w':World):Prop:=
 ((∃a1 c1 a2 c2 a3 c3,e=.returned (fj a1 (lK r).ins.length c1 a2 (lK r).vs.length c2 a3 (lK r).outs.length c3)/\(∀v∈(lK r).vs,v.k<18446744073709551616)/\OG3 w' w.heap.size a1 a2 a3 (lK r))/\((lK r).code=0/\(lK r).at_=0/\GLe (lK r))/\Kept 0 0 w w')\/(∃(c:Int) (p:Nat),r=.error (c,p)/\e=Thr c (p:Nat)/\Kept 0 0 w w')
end
section
open Go.RowKit
attribute[local go_sem] dI dG dF gh gj gn mkF
theorem Pw(bv){C aH}(w):CallsD prog 16 #[ge bv,ge C,ge aH] .returning w λe a D=>e=.returned (.tuple #[])/\a=.returning/\D=w:=by
 refine callsD_of_wpS func16 rfl λf cs bd=>?_;apply wpS_seq;apply wpS_region;simp[wpOpsS,go_sem,recoverD,bd,ntmps16,Exit.thenS];refine wpS_of_wp ?_;simp[Array.replicate];go_wp2_with fail;cases f;simp_all[bodyPostS,results,results16]
structure R3(W:World)(G C A:Nat)(x y z c a:Value):Prop where
 g0:W.cell? ⟨G,0,none⟩=some x
 g1:W.cell? ⟨G,1,none⟩=some y
 g2:W.cell? ⟨G,2,none⟩=some z
 c0:W.cell? ⟨C,0,none⟩=some c
 a0:W.cell? ⟨A,0,none⟩=some a
 f0:W.frozen? ⟨G,0,none⟩=false
 f1:W.frozen? ⟨G,1,none⟩=false
 f2:W.frozen? ⟨G,2,none⟩=false
 fc:W.frozen? ⟨C,0,none⟩=false
 fa:W.frozen? ⟨A,0,none⟩=false
 lG:G<W.heap.size
 lC:C<W.heap.size
 lA:A<W.heap.size
theorem R3.chg{S W A C aH}(h:R3 W bv C aH x y aX c a)(k:Chg S W A)(bL:¬S bv)(ak:¬S C)(bo:¬S aH):R3 A bv C aH x y aX c a:=
 ⟨(k.cell (p:=⟨bv,0,none⟩) h.lG bL).trans h.g0,(k.cell (p:=⟨bv,1,none⟩) h.lG bL).trans h.g1,(k.cell (p:=⟨bv,2,none⟩) h.lG bL).trans h.g2,(k.cell (p:=⟨C,0,none⟩) h.lC ak).trans h.c0,(k.cell (p:=⟨aH,0,none⟩) h.lA bo).trans h.a0,(k.frozen (p:=⟨bv,0,none⟩) h.lG bL).trans h.f0,(k.frozen (p:=⟨bv,1,none⟩) h.lG bL).trans h.f1,(k.frozen (p:=⟨bv,2,none⟩) h.lG bL).trans h.f2,(k.frozen (p:=⟨C,0,none⟩) h.lC ak).trans h.fc,(k.frozen (p:=⟨aH,0,none⟩) h.lA bo).trans h.fa,yaj h.lG k.size,yaj h.lC k.size,yaj h.lA k.size⟩
abbrev p5(W:World)(G C A:Nat)(x y z c a:Value):World:=((((W.setCell ⟨G,0,none⟩ x).setCell ⟨G,1,none⟩ y).setCell ⟨G,2,none⟩ z).setCell ⟨C,0,none⟩ c).setCell ⟨A,0,none⟩ a
theorem R3.put{W C aH}(h:R3 W bv C aH x y aX c a)(g:bv≠C)(s:bv≠aH)(J:C≠aH)(k b l f ap):R3 (p5 W bv C aH k b l f ap) bv C aH k b l f ap:=by
 have n1:∀i j:Nat,(⟨bv,i,none⟩:Addr)≠⟨C,j,none⟩:=λi j e=>g (by injection e);have aI:∀i j:Nat,(⟨bv,i,none⟩:Addr)≠⟨aH,j,none⟩:=λi j e=>s (by injection e);have aE:∀i j:Nat,(⟨C,i,none⟩:Addr)≠⟨aH,j,none⟩:=λi j e=>J (by injection e);refine⟨?_,?_,?_,?_,?_,?_,?_,?_,?_,?_,?_,?_,?_⟩
 ·rw[h6 _ _ _ _ (aI _ _).symm,h6 _ _ _ _ (n1 _ _).symm,h6 _ _ _ _ xac,h6 _ _ _ _ xac,World.cell?_setCell_same _ _ _ h.g0]
 ·rw[h6 _ _ _ _ (aI _ _).symm,h6 _ _ _ _ (n1 _ _).symm,h6 _ _ _ _ xac,World.cell?_setCell_same _ _ _ ((h6 _ _ _ _ xac).trans h.g1)]
 ·rw[h6 _ _ _ _ (aI _ _).symm,h6 _ _ _ _ (n1 _ _).symm,World.cell?_setCell_same _ _ _ ((h6 _ _ _ _ xac).trans ((h6 _ _ _ _ xac).trans h.g2))]
 ·rw[h6 _ _ _ _ (aE _ _).symm,World.cell?_setCell_same _ _ _ ((h6 _ _ _ _ (n1 _ _)).trans ((h6 _ _ _ _ (n1 _ _)).trans ((h6 _ _ _ _ (n1 _ _)).trans h.c0)))]
 ·rw[World.cell?_setCell_same _ _ _ ((h6 _ _ _ _ (aE _ _)).trans ((h6 _ _ _ _ (aI _ _)).trans ((h6 _ _ _ _ (aI _ _)).trans ((h6 _ _ _ _ (aI _ _)).trans h.a0))))]
 ·simp only[World.frozen?_setCell];exact h.f0
 ·simp only[World.frozen?_setCell];exact h.f1
 ·simp only[World.frozen?_setCell];exact h.f2
 ·simp only[World.frozen?_setCell];exact h.fc
 ·simp only[World.frozen?_setCell];exact h.fa
 ·simp;exact h.lG
 ·simp;exact h.lC
 simp;exact h.lA
theorem Gg(W bv C aH x y aX c a):Chg (λb=>b=bv\/b=C\/b=aH) W (p5 W bv C aH x y aX c a):=
 ((((dV W bv 0 x (.inl rfl)).andThen (dV _ bv 1 y (.inl rfl))).andThen (dV _ bv 2 aX (.inl rfl))).andThen (dV _ C 0 c (.inr (.inl rfl)))).andThen (dV _ aH 0 a (.inr (.inr rfl)))
end
section
open Go.RowKit Flt
attribute[local go_sem] dI dG dF gh gj gn mkF
def mH(k:PTk):Bool:=k.kind==4||k.kind==5
def CkO(T:List PTk)(w:World)(e:Ending)(w':World):Prop:=
 ((e=.returned (.tuple #[])/\∀(j:Nat) (q:PTk),T[j]? =some q->mH q=true->dcM q.text<=15)\/(∃(i:Nat) (k:PTk),e=Thr 5 (k.at_:Nat)/\T[i]? =some k/\mH k=true/\15<dcM k.text/\∀(j:Nat) (q:PTk),j<i->T[j]? =some q->mH q=true->dcM q.text<=15))/\Kept 0 0 w w'
theorem Nz{g}(V:n=T.length)(ab:n<=4001)(aG:g<w.heap.size)(aD:∀(j:Nat) (k:PTk),T[j]? =some k->w.cell? ⟨g,j*3,none⟩=some (h0 k.kind)/\w.cell? ⟨g,j*3+1,none⟩=some (dJ k.text)/\w.cell? ⟨g,j*3+2,none⟩=some (h0 k.at_))(ar:∀k∈T,k.text.length<=4000):Calls prog 20 #[hZ g n cap] w (CkO T w):=by
 have bW:=Q aD;have be:=Q ar;have bc:=Q V;have br:=Q aG;clear aD ar V aG;go_enter func20,ntmps20;go_wp2_with fail;go_loopw [6] (λbF W=>∃j:Nat,j<=n/\bF=h0 j/\M (Kept 0 0 w W)/\M (∀(i:Nat) (q:PTk),i<j->T[i]? =some q->mH q=true->dcM q.text<=15)) (λbF _=>n-(intOf bF).toNat)
 case atStart=>exact⟨0,yad,rfl,Kept.refl 0 0 w,λi q h=>by omega⟩
 case round=>
  obtain⟨j,aK,rfl,bd,bo⟩:=hrel;by_cases aV:j<n
  ·obtain⟨k,H⟩:∃k,T[j]? =some k:=⟨_,yal (iv bc.o aV)⟩
   obtain⟨c0,c1,c2⟩:=bW.o j k H;have aP:∀o,wr.cell? ⟨g,o,none⟩=w.cell? ⟨g,o,none⟩:=λo=>(bd.o.chg (S:=λ_=>False)).cell (p:=⟨g,o,none⟩) br.o (λc=>c);rw[<-aP]at c0 c1 c2;have ch:g<wr.heap.size:=yaj br.o bd.o.size;have l:M (k.text.length<=4000):=be.o k (List.mem_of_getElem? H);have ax:=Q H;have aL:=dE 0 0 wr (.cells #[h0 k.kind,dJ k.text,h0 k.at_] 84);have bV:M _:=bd.o.trans aL;have aw:M (∀aA,Kept 0 0 (wr.alloc (.cells #[h0 k.kind,dJ k.text,h0 k.at_] 84)) aA->aA.cell? ⟨wr.heap.size,0,none⟩=some (h0 k.kind)/\aA.cell? ⟨wr.heap.size,1,none⟩=some (dJ k.text)/\aA.cell? ⟨wr.heap.size,2,none⟩=some (h0 k.at_)):=λaA c=>by have h:=eo wr (A:=aA) _ _ (c.chg (S:=λ_=>False)) (λe=>e);exact⟨h.1 0,h.1 1,h.1 2⟩
   have s:M (∀W,Calls prog 50 #[.agg #[h0 k.kind,dJ k.text,h0 k.at_]] W λe D=>e=.returned (.bool (mH k))/\Kept 0 0 W D):=λW=>FP k W;have aJ:M (∀W,_):=λW=>P6 k.text W (ih l.o);clear H aP aL;go_upto_region 3 with fail;generalize wr.alloc (.cells #[h0 k.kind,dJ k.text,h0 k.at_] 84)=aa at*;obtain⟨bq,ak,az⟩:=aw.o aa ib;generalize wr.heap.size=aq at*;cases I:mH k
   ·have cO:M (∀(i:Nat) (q:PTk),i<j+1->T[i]? =some q->mH q=true->dcM q.text<=15):=λi q h J al=>by
     by_cases e:i=j
     ·subst e;have:=ax.o.symm.trans J;cases this;rw[I]at al;cases al
     ·exact bo.o i q xaa J al
    rw[I]at s;go_wp2_with (go_at_call 50;refine yai (s.o _) ?_;rintro e a7 ⟨rfl,b0⟩;obtain⟨bT,bg,a8⟩:=aw.o a7 b0);exact xgj
   rw[I]at s;have f:=Q I;generalize b:dcM k.text=O at*;have a:=Q b;clear b I;by_cases r:15<O
   ·go_wp2_with (first|(go_at_call 50;refine yai (s.o _) ?_;rintro e a7 ⟨rfl,b0⟩;obtain⟨bT,bg,a8⟩:=aw.o a7 b0)|(go_at_call 51;refine yai (aJ.o _) ?_;rintro e aA ⟨rfl,y⟩;obtain rfl:=y.symm)|(go_at_call 52;refine yai j4 ?_;rintro e b7 ⟨rfl,p⟩;obtain rfl:=p.symm));exact⟨rfl,.inr ⟨j,k,rfl,ax.o,f.o,it a.o r,λi q h=>bo.o i q h⟩,bV.o.trans b0⟩
   have cO:M (∀(i:Nat) (q:PTk),i<j+1->T[i]? =some q->mH q=true->dcM q.text<=15):=λi q h J al=>by
    by_cases e:i=j
    ·subst e;have:=ax.o.symm.trans J;cases this;rw[a.o];omega
    ·exact bo.o i q xaa J al
   go_wp2_with (first|(go_at_call 50;refine yai (s.o _) ?_;rintro e a7 ⟨rfl,b0⟩;obtain⟨bT,bg,a8⟩:=aw.o a7 b0)|(go_at_call 51;refine yai (aJ.o _) ?_;rintro e aA ⟨rfl,y⟩;obtain rfl:=y.symm));exact xgj
  have aZ:j=n:=xaa;subst aZ;go_wp2_with fail
  first
   |(refine yax (v:=.tuple #[]) (by simp[results,results20,go_sem]) rfl ?_;exact⟨.inl ⟨rfl,λi q h J=>bo.o i q (by rw[bc.o];exact(List.getElem?_eq_some_iff.1 h).1) h J⟩,bd.o⟩)
   |(go_end0;exact⟨.inl ⟨rfl,λi q h J=>bo.o i q (by rw[bc.o];exact(List.getElem?_eq_some_iff.1 h).1) h J⟩,bd.o⟩)
end
section
open Go.RowKit Flt
theorem NA(t i j):(fJ t i j).length<=t.length:=by
 grind[fJ]
theorem Gh(t i)(h:i<t.length):(nxT t i).text.length<=t.length:=by
 grind[nxT,NA,iD]
theorem tw(t i):∀af∈jx t i,af.text.length<=t.length:=by
 intro af aR;rw[jx]at aR;split at aR
 ·rename_i h;split at aR
  ·grind[Gh]
  obtain c|c:=List.mem_cons.1 aR
  ·subst c;exact Gh t i h
  exact tw t _ _ c
 cases aR
termination_by t.length-i
decreasing_by
 grind[oz,mA]
theorem J6(t j):((eK t).getD j h8).text.length<=t.length:=by
 by_cases h:j<(eK t).length
 ·refine tw t (skM t 0) _ ?_;rw[yah,yal h];exact List.getElem_mem _
 rw[yah,List.getElem?_eq_none xaa];exact yad
end
section
open Go.RowKit Flt
attribute[local go_sem] dI dG dF gh gj gn mkF
variable{t:List UInt8}
def IpO(Pa:Rs LSt->Prop)(w:World)(e:Ending)(w':World):Prop:=∃r,Pa r/\PJ w (lK r) e w'/\GLe (lK r)
abbrev psV(w:World)(c a:Value):World:=((w.alloc (eZ none 0 0 none 0 0 none 0 0)).alloc (.cells #[c] 3)).alloc (.cells #[a] 3)
abbrev psW(w:World):World:=psV w (.int .i64 0) (.int .i64 0)
theorem yx(w c a):R3 (psV w c a) w.heap.size (w.heap.size+1) (w.heap.size+1+1) (.slice none 0 0) (.slice none 0 0) (.slice none 0 0) c a:=by
 have a9:(w.alloc (eZ none 0 0 none 0 0 none 0 0)).heap.size=w.heap.size+1:=by simp
 have bj:((w.alloc (eZ none 0 0 none 0 0 none 0 0)).alloc (.cells #[c] 3)).heap.size=w.heap.size+1+1:=by simp
 obtain⟨a1,a2,a3⟩:=eo w (A:=psV w c a) _ _ (((dE 0 0 _ _).trans (dE 0 0 _ _)).chg (S:=λ_=>False)) (λc=>c);obtain⟨L,bi,U⟩:=eo _ (A:=psV w c a) _ _ ((dE 0 0 _ _).chg (S:=λ_=>False)) (λc=>c);obtain⟨c1,c2,c3⟩:=eo _ (A:=psV w c a) _ _ ((ib).chg (S:=λ_=>False)) (λc=>c);rw[a9]at L bi U;rw[bj]at c1 c2 c3;exact⟨a1 0,a1 1,a1 2,L 0,c1 0,a2 0,a2 1,a2 2,bi 0,c2 0,a3,U,c3⟩
theorem Gi(t):0<(Tl t (eK t)).length/\(Tl t (eK t)).length<=t.length+1:=by
 grind[l7,Tl,clT]
theorem J7(h:t.length<=4000):∀k∈Tl t (eK t),k.text.length<=4000:=by
 intro k H;unfold Tl at H;obtain c|c:=List.mem_append.1 H
 ·obtain⟨x,ar,rfl⟩:=List.mem_map.1 c;have:=tw t _ x ar;unfold cvT;grind
 grind[clT]
theorem J8{W v}(f:PkR W B v (scM t 0)):∃g cap,v=hZ g (Tl t (eK t)).length cap/\g<W.heap.size/\∀(j:Nat) (k:PTk),(Tl t (eK t))[j]? =some k->W.cell? ⟨g,j*3,none⟩=some (h0 k.kind)/\W.cell? ⟨g,j*3+1,none⟩=some (dJ k.text)/\W.cell? ⟨g,j*3+2,none⟩=some (h0 k.at_):=by
 have e:scM t 0=Tl t _:=FW t;rw[e]at f;have ab:=(Gi t).1;obtain⟨_,a6⟩|⟨g,cap,bp,rfl,_⟩:=f.2<;>grind[pI]
theorem OG3.far{S W A}(h:OG3 W B a1 a2 a3 ab)(k:Chg S W A)(aZ:∀b,S b->b<B)(ax:a<=B):OG3 A a a1 a2 a3 ab:=λY H=>by
 have aX:=k.size
 obtain⟨bz,aJ,au,z,J,al⟩:=h Y (yan aX H)
 exact⟨_,_,_,z.keepC k (λc=>by grind) (λc=>by grind) (λc=>by grind),by omega,by omega⟩
theorem yy{g W bJ ba aZ L H X b j ag m aG aC}(h:R3 W bv (bv+1) (bv+1+1) x y aX T aC)(ah:IpO g w (.returned (.tuple #[.agg #[x,y,aX],T,aC])) W):
  Leaves prog Tryz.f6 #[bJ,ba,ge bv,ge (bv+1),ge (bv+1+1),aZ,L,H,X,i1,b,j,r,q,f,ag,m,n,aG,o] (IpO g w) [{target:=.fn (.func 16) #[ge bv,ge (bv+1),ge (bv+1+1)],args:=#[]}] .returning W:=by
 refine leaves_cons (f:=16) (args:=#[ge bv,ge (bv+1),ge (bv+1+1)]) xac (by simp[go_sem]) ?_;refine(Pw bv W).mono ?_;rintro e a aA ⟨rfl,rfl,rfl⟩;exact⟨.tuple #[.agg #[x,y,aX],T,aC],by simp[results,results6,go_sem,h.g0,h.g1,h.g2,h.c0,h.a0],ah⟩
end
section
open Go.RowKit Go.Extern.Stop Go.Stop Go.Extern
theorem J9(t w):(ReflectliteValue.unpack (.iface 80 (.pointer (some t)))).run prog w
  =.ok (.agg #[.pointer (some ⟨7,80,none⟩),ge w.heap.size,.int .u64 150]) (w.alloc (.cells #[.pointer (some t)] 80)):=by kernel_rfl
theorem Ka(a w):(ReflectliteValue.methodAny (ReflectliteValue.valueError "reflectlite.Value.Type" 0) (λt _ _ _=>ReflectliteType.toType t) #[.agg #[.pointer (some ⟨7,80,none⟩),.pointer (some a),.int .u64 150]]).run prog w
  =.ok (.iface 151 (.agg #[.pointer (some ⟨7,80,none⟩)])) w:=by kernel_rfl
theorem Gj(h w):(Go.method 433 151 (.agg #[h]) "Kind").run prog w=.ok (146,h) w:=by kernel_rfl
theorem Gk(w):((ReflectliteType.abiMethod λt=>(λa:Nat=>Value.int IntKind.u8 (a:Int))<$>Rtype.kind t) #[.pointer (some ⟨7,80,none⟩)]).run prog w=.ok (.int .u8 22) w:=by kernel_rfl
theorem Gl(w):((ReflectliteType.abiMethod λt=>(λa:Nat=>Value.int IntKind.u8 (a:Int))<$>Rtype.kind t) #[.pointer (some ⟨7,49,none⟩)]).run prog w=.ok (.int .u8 25) w:=by kernel_rfl
theorem Px(aX f v):
  ReflectliteValue.method aX f #[v]=(do match <-ReflectliteValue.parts v with|none=>aX|some (t,a,ca)=>f t a ca (ca%32)):=rfl
theorem yz(a w):(ReflectliteValue.parts (.agg #[.pointer (some ⟨7,80,none⟩),.pointer (some a),.int .u64 150])).run prog w=.ok (some (80,a,150)) w:=by kernel_rfl
theorem Kb(a p W)(F:W.cell? a=some (.pointer (some p))):
  (ReflectliteValue.method (ReflectliteValue.valueError "reflectlite.Value.IsNil" 0) ReflectliteValue.isNil #[.agg #[.pointer (some ⟨7,80,none⟩),.pointer (some a),.int .u64 150]]).run prog W=.ok (.bool false) W:=by
 rw[Px];simp only[Sem.run_bind,yz,Result.andThen];simp[ReflectliteValue.isNil,loadVar,isAgg,underlying,underlying80,F,Result.andThen]
theorem Gm(h w):(Go.method 433 151 (.agg #[h]) "Elem").run prog w=.ok (252,.agg #[h]) w:=by kernel_rfl
theorem Kc(h w):(Go.method 433 151 (.agg #[h]) "Implements").run prog w=.ok (253,.agg #[h]) w:=by kernel_rfl
theorem Kd(h w):(Go.method 433 151 (.agg #[h]) "AssignableTo").run prog w=.ok (250,.agg #[h]) w:=by kernel_rfl
theorem Gn(w):(ReflectliteType.method ReflectliteType.elem #[.agg #[.pointer (some ⟨7,80,none⟩)]]).run prog w=.ok (.iface 151 (.agg #[.pointer (some ⟨7,49,none⟩)])) w:=by kernel_rfl
theorem Ke(w):(ReflectliteType.relation "Implements" ReflectliteType.implements_ #[.agg #[.pointer (some ⟨7,49,none⟩)],.iface 151 (.agg #[.pointer (some ⟨7,77,none⟩)])]).run prog w=.ok (.bool true) w:=by kernel_rfl
theorem Gp(v w):(ReflectliteType.typeOf #[.iface 49 v]).run prog w=.ok (.iface 151 (.agg #[.pointer (some ⟨7,49,none⟩)])) w:=by kernel_rfl
theorem Kf(w):(ReflectliteType.relation "AssignableTo" ReflectliteType.assignableTo #[.agg #[.pointer (some ⟨7,49,none⟩)],.iface 151 (.agg #[.pointer (some ⟨7,49,none⟩)])]).run prog w=.ok (.bool true) w:=by kernel_rfl
theorem Kg(x y w):(ReflectliteValue.unpack (.iface 49 (.agg #[x,y]))).run prog w
  =.ok (.agg #[.pointer (some ⟨7,49,none⟩),ge w.heap.size,.int .u64 153]) (w.alloc (.cells #[x,y] 49)):=by kernel_rfl
theorem CW(w):(Rtype.elem? 80).run prog w=.ok (some 49) w:=by kernel_rfl
theorem NC(p w):(ReflectliteValue.mk 49 p ReflectliteValue.flagAddr).run prog w=.ok (.agg #[.pointer (some ⟨7,49,none⟩),.pointer (some p),.int .u64 409]) w:=by kernel_rfl
theorem Gq(a p W)(F:W.cell? a=some (.pointer (some p))):
  (ReflectliteValue.method (ReflectliteValue.valueError "reflectlite.Value.Elem" 0) ReflectliteValue.elem #[.agg #[.pointer (some ⟨7,80,none⟩),.pointer (some a),.int .u64 150]]).run prog W
   =.ok (.agg #[.pointer (some ⟨7,49,none⟩),.pointer (some p),.int .u64 409]) W:=by
 rw[Px];simp only[Sem.run_bind,yz,Result.andThen];simp[ReflectliteValue.elem,loadVar,isAgg,underlying,underlying80,F,Result.andThen,CW,NC]
theorem Gs(a w):(ReflectliteValue.parts (.agg #[.pointer (some ⟨7,49,none⟩),.pointer (some a),.int .u64 409])).run prog w=.ok (some (49,a,409)) w:=by kernel_rfl
theorem Gt(a w):(ReflectliteValue.parts (.agg #[.pointer (some ⟨7,49,none⟩),.pointer (some a),.int .u64 153])).run prog w=.ok (some (49,a,153)) w:=by kernel_rfl
theorem Kh(w):(Rtype.directlyAssignable 49 49).run prog w=.ok true w:=by kernel_rfl
theorem Py(w):(Go.sizeOf 49).run prog w=.ok 2 w:=by kernel_rfl
theorem Ki(b x y W)(aC:W.cell? ⟨b,0,none⟩=some x)(z:W.cell? ⟨b,1,none⟩=some y):(loadVar 49 ⟨b,0,none⟩).run prog W=.ok (.agg #[x,y]) W:=by
 simp[loadVar,loadCells,loadCellsFrom,Result.andThen,Addr.add,aC,z]
theorem Gu(T x y ca b6 W)(ar:x.oneCell'=true)(aY:y.oneCell'=true)(aC:W.cell? ⟨T,0,none⟩=some ca)(z:W.cell? ⟨T,1,none⟩=some b6)(bZ:W.frozen? ⟨T,0,none⟩=false)(aS:W.frozen? ⟨T,1,none⟩=false):(storeVar 49 ⟨T,0,none⟩ (.agg #[x,y])).run prog W=.ok () ((W.setCell ⟨T,0,none⟩ x).setCell ⟨T,1,none⟩ y):=by
 simp only[storeVar,Sem.run_bind,Py,Result.andThen];rw[h2 (by show ¬((#[x,y]:Array Value).size≠2);simp)];simp only[Value.cells,storeCells,Sem.run_bind];simp only[Sem.run_pure,Result.andThen,Addr.add];simp only[Nat.zero_add,Nat.add_zero,run_store prog W _ _ _ ar];simp[aC,bZ];rw[run_store _ _ _ _ _ aY];rw[h6 _ _ _ _ xac,World.frozen?_setCell,z,aS];simp
theorem ND(T b x y ca b6 W)(ar:x.oneCell'=true)(aY:y.oneCell'=true)(U:W.cell? ⟨b,0,none⟩=some x)(ah:W.cell? ⟨b,1,none⟩=some y)(aC:W.cell? ⟨T,0,none⟩=some ca)(z:W.cell? ⟨T,1,none⟩=some b6)(bZ:W.frozen? ⟨T,0,none⟩=false)(aS:W.frozen? ⟨T,1,none⟩=false):
  (ReflectliteValue.set #[.agg #[.pointer (some ⟨7,49,none⟩),ge T,.int .u64 409],.agg #[.pointer (some ⟨7,49,none⟩),ge b,.int .u64 153]]).run prog W
   =.ok (.tuple #[]) ((W.setCell ⟨T,0,none⟩ x).setCell ⟨T,1,none⟩ y):=by
 rw[show ReflectliteValue.set _=(ReflectliteValue.parts (.agg _)>>=λp=>ReflectliteValue.parts (.agg _)>>=λq=>_) from rfl];simp only[Sem.run_bind,Gs,Gt,Result.andThen];rw[h2 xab];simp only[Sem.run_bind,Sem.run_pure,Result.andThen,Ki b x y W U ah,Kh,if_true,Gu T x y ca b6 W ar aY aC z bZ aS]
def ErT(w:World):Prop:=w.cell? ⟨0,0,none⟩=some (.iface 151 (.agg #[.pointer (some ⟨7,77,none⟩)]))
abbrev asW(w:World)(T:Nat)(c p:Int):World:=((((w.alloc (.cells #[.pointer (some ⟨T,0,none⟩)] 80)).alloc (.cells #[.pointer (some ⟨7,80,none⟩),.pointer (some ⟨w.heap.size,0,none⟩),.int .u64 150] 122)).alloc (.cells #[.pointer (some ⟨7,80,none⟩),.pointer (some ⟨w.heap.size,0,none⟩),.int .u64 150] 122)).alloc (.cells #[.int .i64 c,.int .i64 p] 49))
theorem asS(T c p){ca b6}(w)(aG:ErT w)(aC:w.cell? ⟨T,0,none⟩=some ca)(z:w.cell? ⟨T,1,none⟩=some b6)(bZ:w.frozen? ⟨T,0,none⟩=false)(aS:w.frozen? ⟨T,1,none⟩=false):
  Calls prog 38 #[.iface 49 (.agg #[h0 c,h0 p]),.iface 80 (ge T)] w λe D=>e=.returned (.bool true)/\D=((asW w T c p).setCell ⟨T,0,none⟩ (h0 c)).setCell ⟨T,1,none⟩ (h0 p):=by
 unfold ErT at aG;have K:=@run_callFunc_extern prog 68 _ (λargs=>ReflectliteValue.unpack (args.getD 0 (.tuple #[]))) func68 (by kernel_rfl) (by kernel_rfl) (by kernel_rfl) (by kernel_rfl);have a6:=@run_callFunc_extern prog 69 _ (ReflectliteValue.methodAny (ReflectliteValue.valueError "reflectlite.Value.Type" 0) (λt _ _ _=>ReflectliteType.toType t)) func69 (by kernel_rfl) (by kernel_rfl) (by kernel_rfl) (by kernel_rfl);have ag:=@run_callFunc_extern prog 70 _ (ReflectliteValue.method (ReflectliteValue.valueError "reflectlite.Value.IsNil" 0) ReflectliteValue.isNil) func70 (by kernel_rfl) (by kernel_rfl) (by kernel_rfl) (by kernel_rfl);have b2:=@run_callFunc_extern prog 146 _ (ReflectliteType.abiMethod λt=>do pure (.int .u8 (<-Rtype.kind t))) func146 (by kernel_rfl) (by kernel_rfl) (by kernel_rfl) (by kernel_rfl);have bU:=@run_callFunc_extern prog 252 _ (ReflectliteType.method ReflectliteType.elem) func252 (by kernel_rfl) (by kernel_rfl) (by kernel_rfl) (by kernel_rfl);have cg:=@run_callFunc_extern prog 253 _ (ReflectliteType.relation "Implements" ReflectliteType.implements_) func253 (by kernel_rfl) (by kernel_rfl) (by kernel_rfl) (by kernel_rfl);have F:=@run_callFunc_extern prog 92 _ ReflectliteType.typeOf func92 (by kernel_rfl) (by kernel_rfl) (by kernel_rfl) (by kernel_rfl);have ak:=@run_callFunc_extern prog 250 _ (ReflectliteType.relation "AssignableTo" ReflectliteType.assignableTo) func250 (by kernel_rfl) (by kernel_rfl) (by kernel_rfl) (by kernel_rfl);have aD:=@run_callFunc_extern prog 93 _ (ReflectliteValue.method (ReflectliteValue.valueError "reflectlite.Value.Elem" 0) ReflectliteValue.elem) func93 (by kernel_rfl) (by kernel_rfl) (by kernel_rfl) (by kernel_rfl);have bD:=@run_callFunc_extern prog 94 _ ReflectliteValue.set func94 (by kernel_rfl) (by kernel_rfl) (by kernel_rfl) (by kernel_rfl);have bB:=Gp;have bQ:=Kd;have X:=Kf;have ei:=Kg;have I:=J9;have i:=Ka;have l:=Gj;have n:=Gm;have b:=Kc;have B:=Gk;have m:=Gl;have o:=Gn;have q:=Ke;have k:=Kb ⟨w.heap.size,0,none⟩ ⟨T,0,none⟩ ((w.alloc (.cells #[ge T] 80)).alloc (.cells #[.pointer (some ⟨7,80,none⟩),ge w.heap.size,.int .u64 150] 122)) xac
 have aV:0<w.heap.size:=by
  obtain h|h:=Nat.eq_zero_or_pos w.heap.size
  ·simp[World.cell?,h]at aG
  exact h
 have P:((w.alloc (.cells #[ge T] 80)).alloc (.cells #[.pointer (some ⟨7,80,none⟩),ge w.heap.size,.int .u64 150] 122)).cell? ⟨0,0,none⟩=some (.iface 151 (.agg #[.pointer (some ⟨7,77,none⟩)])):=by
  rw[World.cell?_alloc_lt _ _ ⟨0,0,none⟩ xac,World.cell?_alloc_lt _ _ ⟨0,0,none⟩ aV];exact aG
 have a:T<w.heap.size:=by
  obtain h|h:=Nat.lt_or_ge T w.heap.size
  ·exact h
  simp[World.cell?,Array.getElem?_eq_none h]at aC
 have f:=Gq ⟨w.heap.size,0,none⟩ ⟨T,0,none⟩ (((w.alloc (.cells #[ge T] 80)).alloc (.cells #[.pointer (some ⟨7,80,none⟩),ge w.heap.size,.int .u64 150] 122)).alloc (.cells #[.pointer (some ⟨7,80,none⟩),ge w.heap.size,.int .u64 150] 122)) (by rw[World.cell?_alloc_lt _ _ ⟨w.heap.size,0,none⟩ yaf];simp)
 have x:∀j,(asW w T c p).cell? ⟨T,j,none⟩=w.cell? ⟨T,j,none⟩:=λj=>by
  rw[World.cell?_alloc_lt _ _ ⟨T,j,none⟩ yaf,World.cell?_alloc_lt _ _ ⟨T,j,none⟩ yaf,World.cell?_alloc_lt _ _ ⟨T,j,none⟩ yaf,World.cell?_alloc_lt _ _ ⟨T,j,none⟩ a]
 have g:∀j,(asW w T c p).frozen? ⟨T,j,none⟩=w.frozen? ⟨T,j,none⟩:=λj=>by
  rw[World.frozen?_alloc_old _ _ ⟨T,j,none⟩ yaf,World.frozen?_alloc_old _ _ ⟨T,j,none⟩ yaf,World.frozen?_alloc_old _ _ ⟨T,j,none⟩ yaf,World.frozen?_alloc_old _ _ ⟨T,j,none⟩ (Nat.ne_of_lt a)]
 have st:=ND T (w.heap.size+1+1+1) (h0 c) (h0 p) ca b6 (asW w T c p) rfl rfl (by rw[World.cell?_alloc_at _ _ _ _ xac];rfl) (by rw[World.cell?_alloc_at _ _ _ _ xac];rfl) ((x 0).trans aC) ((x 1).trans z) ((g 0).trans bZ) ((g 1).trans aS);clear x g;go_enter func38,ntmps38;go_wp2;exact xbs
end
section
open Go.RowKit
attribute[local go_sem] dI dG dF gh gj gn mkF
theorem NF(x w):Sem.run prog (Instr.typeAssert (.iface 49 x) 20 77 true) w=.ok (.tuple #[.iface 49 x,.bool true]) w:=by kernel_rfl
theorem asK(c p){ca b6 w}(aG:ErT w)(aC:w.cell? ⟨T,0,none⟩=some ca)(z:w.cell? ⟨T,1,none⟩=some b6)(bZ:w.frozen? ⟨T,0,none⟩=false)(aS:w.frozen? ⟨T,1,none⟩=false):
  Calls prog 38 #[.iface 49 (.agg #[h0 c,h0 p]),.iface 80 (ge T)] w λe D=>e=.returned (.bool true)/\D.cell? ⟨T,0,none⟩=some (h0 c)/\D.cell? ⟨T,1,none⟩=some (h0 p)/\Chg (λb=>b=T) w D:=by
 refine yai (asS T c p w aG aC z bZ aS) ?_;rintro e D ⟨rfl,rfl⟩;have a:T<w.heap.size:=World.block_lt_of_cell? w _ aC;have aL:Kept 0 0 w (asW w T c p):=(((dE 0 0 w _).trans (dE 0 0 _ _)).trans (dE 0 0 _ _)).trans (dE 0 0 _ _);have aZ:=(aL.cell a xaa).trans aC;have bz:=(aL.cell a xaa).trans z;generalize asW w T c p=W at*;refine⟨rfl,?_,?_,(aL.chg.andThen (dV (S:=λb=>b=T) _ _ _ _ rfl)).andThen (dV _ _ _ _ rfl)⟩
 ·rw[h6 _ _ _ _ xac,World.cell?_setCell_same _ _ _ aZ]
 rw[World.cell?_setCell_same _ _ _ ((h6 _ _ _ _ xac).trans bz)]
theorem NG(c p w)(aG:ErT w):Calls prog 17 #[.iface 49 (.agg #[h0 c,h0 p])] w λe D=>e=.returned (.agg #[h0 c,h0 p])/\Kept 0 0 w D:=by
 have az:=NF;have aV:0<w.heap.size:=World.block_lt_of_cell? w _ aG;have a9:(w.alloc (.cells #[h0 0,h0 0] 49)).heap.size=w.heap.size+1:=by simp
 have ad:=(dE 0 0 w (.cells #[h0 0,h0 0] 49)).trans (dE 0 0 _ (.cells #[h0 0,h0 0] 49));obtain⟨aQ,aU,bN⟩:=eo (w.alloc (.cells #[h0 0,h0 0] 49)) #[h0 0,h0 0] 49 (ib).chg (S:=λ_=>False) (λc=>c);rw[a9]at aQ aU bN;have b0:M _:=asK c p (show ErT _ from(ad.cell aV xaa).trans aG) (aQ 0) (aQ 1) (aU 0) (aU 1);have aw:M (∀aA,Chg (λb=>b=w.heap.size+1) ((w.alloc (.cells #[h0 0,h0 0] 49)).alloc (.cells #[h0 0,h0 0] 49)) _->_):=λaA k=>eo w (A:=aA) _ _ ((dE 0 0 _ _).chg.andThen k) xaa;have bJ:=Q ad;clear aG ad aQ aU bN;go_enter func17,ntmps17;go_upto_region 5 with (go_at_call 38;refine yai b0.o ?_;rintro e aA ⟨rfl,bT,bg,F⟩);obtain⟨L,bi,U⟩:=aw.o _ F;have j:=L 0;have l:=L 1;have R:=bi 0;have a:=bi 1;have al:=Q F;clear L bi F;go_wp2_with fail;have aZ:((aA.setCell ⟨w.heap.size,0,none⟩ (h0 c)).setCell ⟨w.heap.size,1,none⟩ (h0 p)).cell? ⟨w.heap.size,0,none⟩=some (h0 c):=by rw[h6 _ _ _ _ xac,World.cell?_setCell_same _ _ _ j]
 have bz:((aA.setCell ⟨w.heap.size,0,none⟩ (h0 c)).setCell ⟨w.heap.size,1,none⟩ (h0 p)).cell? ⟨w.heap.size,1,none⟩=some (h0 p):=by rw[World.cell?_setCell_same _ _ _ ((h6 _ _ _ _ xac).trans l)]
 refine yax (v:=.agg #[h0 c,h0 p]) (by simp[results,results17,go_sem,aZ,bz]) rfl ⟨rfl,?_⟩;exact Chg.kept (Kept.refl 0 0 w) (((bJ.o.chg.new al.o (λi h e=>by omega)).andThen (dV _ _ _ _ yac)).andThen (dV _ _ _ _ yac)) (λi h=>h)
theorem NH(bv){C aH}(c p){i}(w)(aG:ErT w){x y aX T aC}(h:R3 w bv C aH x y aX T aC)(g:bv≠C)(s:bv≠aH)(J:C≠aH):CallsD prog 16 #[ge bv,ge C,ge aH] (.panicking ({v:=.iface 49 (.agg #[h0 c,h0 p]),recovered:=false}::i)) w λe a D=>e=.returned (.tuple #[])/\a=.panicking ({v:=.iface 49 (.agg #[h0 c,h0 p]),recovered:=true}::i)/\R3 D bv C aH (.slice none 0 0) (.slice none 0 0) (.slice none 0 0) (h0 c) (h0 p)/\Chg (λb=>b=bv\/b=C\/b=aH) w D:=by
 have G:=Q h;have bc:M _:=h1 g (h1 s J);clear h;have bk:M _:=NG c p w aG;refine callsD_of_wpS func16 rfl λf cs bd=>?_;apply wpS_seq;apply wpS_region;simp[wpOpsS,go_sem,recoverD,bd,ntmps16,Exit.thenS];refine wpS_of_wp ?_;simp[Array.replicate];go_wp2_with (go_at_call 17;refine yai bk.o ?_;rintro e aA ⟨rfl,F⟩);have aL:=dE 0 0 aA (.cells #[h0 c,h0 p] 49);have z:=G.o.chg (F.trans aL).chg (S:=λ_=>False) (λc=>c) (λc=>c) (λc=>c);obtain⟨L,bi,U⟩:=eo aA #[h0 c,h0 p] 49 (ib).chg (S:=λ_=>False) (λc=>c);have j:=L 0;have l:=L 1;have o:=yaj G.o.lG F.size;have n:=yaj G.o.lC F.size;have m:=yaj G.o.lA F.size;have ay:M _:=F.trans aL;have aK:=Q z;obtain⟨aZ,bz,aJ,c0,cg,bZ,aS,bO,k,en,_,_,_⟩:=z;have bL:aA.heap.size≠bv:=xaa;have ak:aA.heap.size≠C:=xaa;have bo:aA.heap.size≠aH:=xaa;clear F aL L bi U;generalize aA.alloc _=W at*;generalize aA.heap.size=B at*;go_region_with fail
 all_goals
  have i1:=dH (p5 W bv C aH (.slice none 0 0) (.slice none 0 0) (.slice none 0 0) (h0 c) (h0 p))
  exact h1 rfl ⟨_,rfl,_,(by simp[results,results16]),rfl,rfl,(aK.o.put g s J _ _ _ _ _).chg i1.chg (S:=λ_=>False) (λc=>c) (λc=>c) (λc=>c),(ay.o.chg.andThen (Gg W bv C aH _ _ _ _ _)).andThen i1.chg⟩
end
section
open Go.RowKit Flt
attribute[local go_sem] dI dG dF gh gj gn mkF
variable{g:Rs LSt->Prop}
theorem tz{W bJ ba aZ L H X b j ag m aG p aC}(l:ErT W)(h:R3 W bv (bv+1) (bv+1+1) x y aX T aC)(k:Kept 0 0 w W)(bL:w.heap.size<=bv)(ah:g (.error (c,p))):
  Leaves prog Tryz.f6 #[bJ,ba,ge bv,ge (bv+1),ge (bv+1+1),aZ,L,H,X,i1,b,j,r,q,f,ag,m,n,aG,o] (IpO g w) [{target:=.fn (.func 16) #[ge bv,ge (bv+1),ge (bv+1+1)],args:=#[]}] (.panicking [{v:=.iface 49 (.agg #[h0 c,h0 (p:Nat)]),recovered:=false}]) W:=by
 refine leaves_cons (f:=16) (args:=#[ge bv,ge (bv+1),ge (bv+1+1)]) xac (by simp[go_sem]) ?_;refine(NH bv c p W l h xaa xaa xaa).mono ?_;rintro e a aA ⟨rfl,rfl,al,a5⟩;refine⟨.tuple #[Oi,h0 c,h0 (p:Nat)],by simp[results,results6,go_sem,al.g0,al.g1,al.g2,al.c0,al.a0],_,ah,zY c p (Chg.kept k a5 (λi hi=>by omega)),yad,yad,yad⟩
theorem Gv{t}(f:TxA w a n t)(aY:n<=cap)(aG:ErT w){y:Prop}(z:4000<n->g (.error (5,0)))(J:n<=4000->∀p:Nat,dT t.length (eK t) [eE]=p->g (.error (2,p)))(al:n<=4000->dT t.length (eK t) [eE]=-1->∀(i:Nat) (k:PTk),(Tl t (eK t))[i]? =some k->mH k=true->15<dcM k.text->(∀(j:Nat) (q:PTk),j<i->(Tl t (eK t))[j]? =some q->mH q=true->dcM q.text<=15)->g (.error (5,k.at_)))(bw:(∀(j:Nat) (q:PTk),(Tl t (eK t))[j]? =some q->mH q=true->dcM q.text<=15)->y)(bL:n<=4000->dT t.length (eK t) [eE]=-1->y->∀(W:World) (v:Value) (vs:List Value) (aI:List Sm) (Maa:Nat->Prop),W.ownsRow 0 90 1 v vs.length vs->SdL W Maa vs aI->PGm aI (eK t)->∃r,g r/\Calls prog 21 #[v] W (GoP W r)):
  Calls prog 6 #[.slice a n cap] w (IpO g w):=by
 have aF:M _:=yx w (h0 0) (h0 0);have aL:Kept 0 0 w (psW w):=((dE 0 0 w _).trans (dE 0 0 _ _)).trans (dE 0 0 _ _);have an:=Q aL;have bk:=Q f
 have aV:0<w.heap.size:=by
  obtain h|h:=Nat.eq_zero_or_pos w.heap.size
  ·unfold ErT at aG;simp[World.cell?,h]at aG
  exact h
 have bS:M (∀W,Kept 0 0 w W->ErT W):=λW k=>(k.cell aV xaa).trans aG;have aK:=Q z;have aT:=Q J;have ab:=Q al;have aO:=Q bw;have D:=Q bL;clear z J al bw bL f aG aV aL;by_cases V:4000<n
 ·have b3:4000<(n:Int):=xaa;go_enter_defers func6,ntmps6
  go_wp2_with fail;exact yy (yx w _ _) ⟨_,aK.o V,zY 5 0 (((dE 0 0 w _).trans (dE 0 0 _ _)).trans (dE 0 0 _ _)),yad,yad,yad⟩
 have l:n<=4000:=xaa;have b3:¬(4000<(n:Int)):=xaa;have ah:M _:=Pk (bk.o.keep an.o) xaa aY;have x:M (∀W,Kept 0 0 (psW w) W->_):=λW k=>aF.o.chg k.chg (S:=λ_=>False) (λc=>c) (λc=>c) (λc=>c);have C:M (t.length<=4000):=by show _<=_;rw[bk.o.len];exact l
 have bf:M _:=Gi t;have aJ:M _:=J7 C.o;clear aF aY;go_enter_defers func6,ntmps6
 go_upto_region 5 with (go_at_call 18;refine yai ah.o ?_;rintro e aa ⟨aH,rfl,aq,af⟩;obtain⟨bz,A,rfl,T,bG⟩:=J8 aq);have bV:=Q af;have bP:M _:=h1 T bG;have bY:M _:=Nr (cap:=A) T (ip bf.o C.o) bG;clear aq af T bG ah;generalize aR:(Tl t _).length=m at*;go_upto_region 6 with (go_at_call 19;refine yai bY.o ?_;rintro e Z (⟨aN,vs,aI,rfl,X,Y,aw,I,ae,ad⟩|⟨p,rfl,X,ad⟩);rotate_left;exact tz (bS.o Z (an.o.trans (bV.o.trans ad))) (x.o Z (bV.o.trans ad)) (an.o.trans (bV.o.trans ad)) yac (aT.o l p X));have O:=Q aR;have bJ:M _:=bV.o.trans ad
 have ci:M _:=Nz (cap:=A) O.o.symm (ip bf.o C.o) (yaj bP.o.1 ad.size) (λj k h=>by
  have aP:∀o,_:=λo=>(ad.chg (S:=λ_=>False)).cell (p:=⟨_,o,none⟩) bP.o.1 (λc=>c)
  rw[aP,aP,aP]
  exact bP.o.2 j k h) aJ.o
 have U:M _:=h1 aw (h1 ae Y);have bC:=Q X;clear aR ad aw ae Y X I bP bY bV;go_upto_region 7 with (go_at_call 20;refine yai ci.o ?_;rintro e ao ⟨⟨rfl,ap⟩|⟨i,k,rfl,bg,a8,bE,cx⟩,a5⟩;rotate_left;exact tz (bS.o ao (an.o.trans (bJ.o.trans a5))) (x.o ao (bJ.o.trans a5)) (an.o.trans (bJ.o.trans a5)) yac (ab.o l bC.o i k bg a8 bE cx));have ai:M _:=bJ.o.trans a5;obtain⟨r,(bx:M _),ch⟩:=D.o l bC.o (aO.o ap) _ _ _ _ _ (rz U.o.1 (a5.chg) (λ_ _ h=>h)) (U.o.2.1.oth (a5.chg (S:=λ_=>False)) (λ_ h=>h.elim)) U.o.2.2;have S:=Q ch;clear ap a5 ch U ci bJ aK aT ab aO D aJ;go_wp2_with (go_at_call 21;refine yai S.o ?_;rintro e a7 (⟨⟨a1,aW,a2,bA,a3,bs,rfl,a9,B⟩,⟨bd,eN,i1⟩,b0⟩|⟨c,p,b5,rfl,b0⟩);rotate_left;exact tz (bS.o a7 (an.o.trans (ai.o.trans b0))) (x.o a7 (ai.o.trans b0)) (an.o.trans (ai.o.trans b0)) yac (b5 ▸ bx.o);have bw:=x.o _ (ai.o.trans b0);have aO:=Q bw;obtain⟨bM,K,a6,ag,b2,bU,cg,F,ak,aD,ar,b9,cl⟩:=bw);have u:=yaj (x.o _ ib).lA ai.o.size;have L:=an.o.trans (ai.o.trans b0);have s:=Gg a7 w.heap.size (w.heap.size+1) (w.heap.size+1+1) (.slice a1 (lK r).ins.length aW) (.slice a2 (lK r).vs.length bA) (.slice a3 (lK r).outs.length bs) (h0 0) (h0 0);refine yy (aO.o.put xaa xaa xaa _ _ _ _ _) ⟨r,bx.o,⟨⟨_,_,_,_,_,_,by rw[bd,eN],a9,B.far s (λb h=>by omega) xaa⟩,Chg.kept L s (λb h=>by omega)⟩,i1⟩
end
section
open Go.RowKit Flt
attribute[local go_sem] dI dG dF
variable{w D:World}{S:Nat->Prop}{g n:Nat}{a:Option Addr}{G:List Int}
structure YK(w:World)(g n:Nat)(xs:List Int):Prop where
 len:xs.length=n
 lt:g<w.heap.size
 at_:∀k,k<n->w.cell? ⟨g,k,none⟩=some (.int .u8 (xs.getD k 0))
 free:∀o,w.frozen? ⟨g,o,none⟩=false
theorem YK.keepC(q:YK w g n G)(k:Chg S w D)(aT:¬S g):YK D g n G:=
 ⟨q.len,yaj q.lt k.size,λj aK=>by rw[k.cell q.lt aT];exact q.at_ j aK,λo=>by rw[k.frozen q.lt aT];exact q.free o⟩
theorem YK.put{w g n G}(f:YK w g n G)(j)(aK:j<n)(x):YK (w.setCell ⟨g,j,none⟩ (.int .u8 x)) g n (G.set j x) where
 len:=by rw[List.length_set];exact f.len
 lt:=by simpa using f.lt
 at_:=λk H=>by
  rw[yah,List.getElem?_set]
  by_cases e:j=k
  ·subst e
   rw[h3 rfl,h3 (it f.len aK)]
   exact eR (f.at_ j aK)
  ·rw[h2 e,dR (.inr e),<-yah]
   exact f.at_ k H
 free:=λo=>by simp[f.free o]
structure YZ(w:World)(g:Nat)(a:Option Addr)(n:Nat)(xs:List Int):Prop where
 len:xs.length=n
 at_:n=0\/(a=some ⟨g,0,none⟩/\YK w g n xs)
theorem YZ.keepC(f:YZ w g a n G)(k:Chg S w D)(aT:0<n->¬S g):YZ D g a n G:=⟨f.1,by
 by_cases h:n=0
 ·exact .inl h
 ·exact f.2.imp id λ⟨e,q⟩=>⟨e,q.keepC k (aT xaa)⟩⟩
theorem YZ.keep(f:YZ w g a n G)(k:Kept 0 0 w D):YZ D g a n G:=f.keepC (S:=λ_=>False) k.chg (λ_ h=>h)
theorem YZ.ys(f:YZ w g a n G)(h:∀x∈G,0<=x/\x<256):YS w a n G:=⟨f.1,h,f.2.imp id λ⟨e,q⟩=>⟨g,0,e,q.lt,λk H=>by rw[Nat.zero_add];exact q.at_ k H⟩⟩
theorem tF(w a){cap}(k):Calls prog 9 #[.slice a 0 cap,h0 k] w λe D=>e=.returned (h0 k)/\D=w:=by
 go_enter func9,ntmps9;exact xbo
theorem NJ(w g n){cap}(k){G}(a0:YK w g n G)(aC:0<=k)(z:k<=1099511627776)(V:n<=1099511627776):
  Calls prog 9 #[hZ g n cap,h0 k] w λe D=>e=.returned (h0 (k+n))/\(∃ys,YK D g n ys/\∀i,i<n->ys.getD i 0=(k+i)%256)/\Kept g (g+1) w D:=by
 go_enter func9,ntmps9;go_wp2_with fail;go_loopw [1,5] (λct i W=>∃j:Nat,j<=n/\i=h0 j/\ct=h0 (k+j)/\M (∃ys,YK W g n ys/\∀i,i<j->ys.getD i 0=(k+i)%256)/\Kept g (g+1) w W) (λ_ i _=>n-(intOf i).toNat)
 case atStart=>exact⟨0,yad,rfl,by simp,⟨_,a0,λi hi=>by omega⟩,Kept.refl _ _ _⟩
 case round=>
  obtain⟨j,aK,rfl,rfl,f,c⟩:=hrel;obtain⟨ys,b,aY⟩:=f.o;by_cases aV:j<n
  ·have c2:=b.at_ j aV;have c3:=b.free j
   have bm:M (∃ys,YK _ g n ys/\∀i,i<j+1->ys.getD i 0=(k+i)%256):=⟨_,b.put j aV _,λi hi=>by
    rw[rK _ 0 _ j i (it b.len aV)]
    by_cases e:i=j
    ·subst e;rw[h3 rfl]
    ·rw[h2 e];exact aY i xaa⟩
   have bP:M _:=c.trans (d9 _ ⟨g,j,none⟩ (.int .u8 ((k+j)%256)) yab);exact xfn
  exact xev
def YM(w:World)(g:Nat)(a:Option Addr)(n:Nat)(k:Int):Prop:=n=0\/(a=some ⟨g,0,none⟩/\∃ys,YK w g n ys/\∀i,i<n->ys.getD i 0=(k+i)%256)
theorem NK{w}(g n){cap a}(k){G}(a0:YZ w g a n G)(aC:0<=k)(z:k<=1099511627776)(V:n<=1099511627776):
  Calls prog 9 #[.slice a n cap,h0 k] w λe D=>e=.returned (h0 (k+n))/\YM D g a n k/\Chg (λb=>0<n/\b=g) w D:=by
 obtain rfl|⟨rfl,c⟩:=a0.2
 ·exact(tF w a k).mono λe D ⟨z,J⟩=>⟨by rw[z];simp,.inl rfl,it J ib.chg⟩
 by_cases h:n=0
 ·subst h;exact(tF w _ k).mono λe D ⟨z,J⟩=>⟨by rw[z];simp,.inl rfl,it J ib.chg⟩
 exact(NJ w g n k c aC z V).mono λe D ⟨z,J,al⟩=>⟨z,.inr ⟨rfl,J⟩,al.chg1 ⟨by omega,rfl⟩⟩
theorem Kj(w a n cap){G}(f:YS w a n G)(V:n<=1048576):
  Calls prog 5 #[.slice a n cap] w λe D=>e=.returned (hZ w.heap.size n n)/\YZ D w.heap.size (some ⟨w.heap.size,0,none⟩) n G/\Kept 0 0 w D:=by
 have key:∀D:World,YR D _ _->YZ _ w.heap.size _ n _:=λD h=>⟨f.len,.inr ⟨rfl,f.len,h.lt,λk H=>h.cell k (it f.len H),h.free⟩⟩
 obtain rfl|⟨g,aO,rfl,al,bw⟩:=f.at_
 ·have:=List.length_eq_zero_iff.1 f.len;subst this;exact(DZ w a).mono λ_ _ h=>⟨h.1,key _ h.2.1,h.2.2⟩
 exact(Ij w g n f.len V al bw).mono λ_ _ h=>⟨h.1,key _ h.2.1,h.2.2⟩
theorem OG3.gs{W}(h:OG3 W B a1 a2 a3 ab)(H:∀v∈ab.vs,v.k<18446744073709551616):GS W a1 ab.ins.length a2 ab.vs.length a3 ab.outs.length ab.ins ab.vs ab.outs:=by
 obtain⟨bz,aJ,au,av,_,_⟩:=h _ yac;exact av.gs rfl rfl rfl H
theorem wE(w a){n c}(h:¬n<=1048576):
  Calls prog 3 #[.slice a n c] w λe D=>e=.returned (.bool true)/\Kept 0 0 w D:=by
 have aG:1048576<(n:Int):=xaa;clear h;go_enter func3,ntmps3;go_wp2_with fail;go_ret;exact⟨rfl,Kept.refl _ _ _⟩
theorem Kk(w a n c){am}(f:YS w a n am)(V:n<=1048576)(l:ErT w){ab}(m:GLe ab)(aZ:∀W b,YS W b n am->Calls prog 4 #[.slice b n n] W (PJ W ab))(bh:∀W b,YS W b n am->ErT W->Calls prog 6 #[.slice b n n] W (PJ W ab)):
  Calls prog 3 #[.slice a n c] w λe D=>e=.returned (.bool true)/\Kept 0 0 w D:=by
 have aG:¬(1048576<(n:Int)):=xaa;have P:=Q f.lt;have bk:=Q f;have aV:0<w.heap.size:=World.block_lt_of_cell? w _ l;have bS:M (∀W,Kept 0 0 w W->ErT W):=λW k=>(k.cell aV xaa).trans l;have cb:=Q bh;have bY:=Q aZ;obtain⟨j,p,o,bW,bU⟩:=ab
 have bf:M (j.length<=1048576/\p.length<=1048576/\o.length<=1048576):=by
  obtain⟨aD,aT,e8⟩:=m;exact⟨yan aD xab,yan aT xab,yan e8 xab⟩
 have C:(bW !=bW)=false:=by simp
 have bD:(bU !=bU)=false:=by simp
 clear f l bh aZ m aV;go_enter func3,ntmps3;go_wp2_with fail;refine yai (Kj w a n c bk.o V) ?_;rintro e aa ⟨rfl,aQ,(bV:M _)⟩;have ba:M _:=aQ.ys P.o;clear aQ;generalize w.heap.size=ca at ba⊢;go_wp2_with fail;refine yai (bY.o _ _ ba.o) ?_;rintro e Z ⟨⟨bw,aW,p2,bA,ah,bs,rfl,I,ar⟩,ad⟩;have aL:=dE 0 0 Z (eZ bw j.length aW p2 p.length bA ah o.length bs);have y:M _:=(ar.gs I).keep aL;have x:M _:=gQ Z (.slice bw j.length aW) (.slice p2 p.length bA) (.slice ah o.length bs);have ai:M _:=(bV.o.trans ad).trans aL;clear I ar ad aL ba bV;simp only at y x bf⊢;go_upto_region 4 with fail;generalize Z.alloc _=ao at y x ai⊢;generalize Z.heap.size=cd at x⊢;go_wp2_with fail;refine yai (Kj _ a n c (bk.o.keep ai.o) V) ?_;rintro e a7 ⟨rfl,cp,b0⟩;have aC:=Q cp;have aX:=Q b0
 have be:M (ao.heap.size<a7.heap.size\/n=0):=by
  obtain h|⟨_,q⟩:=cp.at_
  ·exact .inr h
  exact .inl q.lt
 have bJ:=Q b0.size;clear cp b0;generalize ax:ao.heap.size=X at aC be bJ⊢;have bK:=Q ax;clear ax;go_wp2_with fail;refine yai (cb.o _ _ (aC.o.ys P.o) (bS.o _ (ai.o.trans aX.o))) ?_;rintro e aA ⟨⟨r1,aH,bp,aN,bo,aM,rfl,I,ar⟩,F⟩;simp only at I ar⊢;have b6:=Q I;have aL:=dE 0 0 aA (eZ r1 j.length aH bp p.length aN bo o.length aM);have aF:=Q ar;have bd:M _:=gQ aA (.slice r1 j.length aH) (.slice bp p.length aN) (.slice bo o.length aM);have aO:M _:=(aC.o.keep F).keep aL;have ay:M _:=(aX.o.trans F).trans aL;have r:=Q F.size;have bR:M ((aA.alloc (eZ r1 j.length aH bp p.length aN bo o.length aM)).heap.size=aA.heap.size+1):=by show _=_;simp
 have B:M (∀Y,(aA.alloc (eZ r1 j.length aH bp p.length aN bo o.length aM)).heap.size<=Y->∃bz aJ au,OG _ _ _ _ _ j.length _ p.length _ o.length j p o/\(a7.heap.size<=bz/\a7.heap.size<=aJ/\a7.heap.size<=au)/\((bz<aA.heap.size\/Y<bz)/\(aJ<aA.heap.size\/Y<aJ)/\(au<aA.heap.size\/Y<au))):=λY H=>by
  obtain⟨z,J,al,av,aB,an⟩:=ar Y (by simp at H;omega)
  exact⟨_,_,_,av.keep aL,aB,an⟩
 have i1:M _:=(ar.gs I).keep aL;simp only at i1;clear I ar F aL aC aX aF;go_upto_region 6 with fail;generalize aA.alloc _=b7 at B i1 bd aO ay bR⊢;obtain⟨_,aw,u1,ap⟩:=bd.o;obtain⟨_,bT,bg,a8⟩:=x.o.keep ay.o;have bu:M _:=uY aH aN aM aW bA bs i1.o (GS.keep y.o ay.o) bf.o.1 bf.o.2.1 bf.o.2.2;go_wp2_with fail;clear aw u1 ap bT bg a8;refine yai bu.o ?_;rintro e cf ⟨rfl,(bG:M _)⟩;have aY:M _:=ay.o.trans bG.o;have bc:M _:=aO.o.keep bG.o;clear bu aO;go_wp2_with fail;refine yai (Kj _ a n c (bk.o.keep (ai.o.trans aY.o)) V) ?_;rintro e cI ⟨rfl,b5,cP⟩;have bi:M _:=b5.ys P.o;have v:M _:=bc.o.keep cP;have bC:M _:=aY.o.trans cP;have bH:M _:=bG.o.trans cP;clear b5 cP bc aY bG;generalize cf.heap.size=ce at bi⊢;go_wp2_with fail;refine yai (eqY n (v.o.ys P.o) bi.o xaa) ?_;rintro e bn ⟨rfl,n9,rfl⟩;have A:=ed 0 0 (w:=cI) n9;have aK:M _:=v.o.keep A;have a0:M _:=bC.o.trans A;have u:M _:=bH.o.trans A;clear A v bC bH bi;generalize cI.drewN _=bn at aK a0 u⊢;go_wp2_with fail;refine yai (NK X n 1 aK.o xab xab xaa) ?_;rintro e L ⟨rfl,_,bN⟩;have T:M _:=Chg.kept a0.o bN (λi hi=>ih bK.o);have bl:M _:=(bd.o.keep u.o).keepC bN (λe=>ip be.o r.o)
 have a5:M (∀Y,L.heap.size<=Y->∃bz aJ au,OG _ _ _ _ _ _ _ _ _ _ _ _ _/\(a7.heap.size<=bz/\a7.heap.size<=aJ/\a7.heap.size<=au)/\((bz<aA.heap.size\/Y<bz)/\(aJ<aA.heap.size\/Y<aJ)/\(au<aA.heap.size\/Y<au))):=λY H=>by
  have a9:=u.o.size
  have bj:=bN.size
  obtain⟨z,J,al,av,aB,an⟩:=B.o Y xaa
  have K:=be.o
  exact⟨_,_,_,(av.keep u.o).keepC bN xaa xaa xaa,aB,an⟩
 have bx:M (GS L r1 j.length bp p.length bo o.length j p o):=by
  obtain⟨z,J,al,av,_,_⟩:=a5.o _ yac;exact av.gs rfl rfl rfl b6.o
 have bv:M _:=uY aH aN aM aW bA bs bx.o (GS.keep y.o T.o) bf.o.1 bf.o.2.1 bf.o.2.2;have aI:M _:=yan u.o.size bN.size;clear bN aK a0 u B i1;have ew:¬((1:Int)+n<0):=xaa;generalize (1:Int)+n=ct at ew⊢;obtain⟨_,aw,u1,ap⟩:=bl.o;obtain⟨_,bT,bg,a8⟩:=x.o.keep T.o;go_wp2_with fail;clear aw u1 ap bT bg a8;refine yai bv.o ?_;rintro e aj ⟨rfl,t⟩;have s:M _:=T.o.trans t;have bm:M _:=bl.o.keep t;obtain⟨z,J,al,av,aB,an⟩:=a5.o _ t.size;have bI:M _:=av.keep t;have O:M ((a7.heap.size<=z/\a7.heap.size<=J/\a7.heap.size<=al)/\((z<aA.heap.size\/aj.heap.size<z)/\(J<aA.heap.size\/aj.heap.size<J)/\(al<aA.heap.size\/aj.heap.size<al))/\aA.heap.size<aj.heap.size):=⟨aB,an,by have bE:=bR.o;have cx:=aI.o;have bL:=t.size;omega⟩
 have U:M _:=Lh aH aN aM bI.o (ih O.o) (ih O.o) (ih O.o) 1 xaa xaa bf.o.1 bf.o.2.1 bf.o.2.2;clear bv T bl a5 bx t av aB an;obtain⟨_,aw,u1,ap⟩:=bm.o;go_wp2_with fail;clear aw u1 ap;refine yai U.o ?_;rintro e ae ⟨rfl,bX,bq⟩;have aE:M _:=Chg.kept s.o bq (λi hi=>by have bg:=O.o;have a8:=bK.o;have bE:=bJ.o;omega);have bQ:M _:=bm.o.keepC bq (ih O.o);have bB:M _:=Li aH aN aM 1 bX xaa xaa bf.o.1 bf.o.2.1 bf.o.2.2;clear bX bq U bI s bm;obtain⟨_,aw,u1,ap⟩:=bQ.o;go_wp2_with fail;clear aw u1 ap;refine yai bB.o ?_;rintro e b9 ⟨rfl,bZ⟩;have a6:M _:=aE.o.trans bZ;clear bB bZ aE bQ;have cv:¬((1:Int)+j.length+6*p.length+o.length<0):=xaa;have aq:((1:Int)+j.length+6*p.length+o.length !=1+j.length+6*p.length+o.length)=false:=by simp
 go_wp2_with fail;refine yai (Kj _ a n c (bk.o.keep (ai.o.trans a6.o)) V) ?_;rintro e cg ⟨rfl,b4,b1⟩;have bb:M _:=b4.ys P.o;have aU:M _:=a6.o.trans b1;clear b4 b1 a6;generalize b9.heap.size=cc at bb⊢;go_wp2_with fail;refine yai (cb.o _ _ bb.o (bS.o _ (ai.o.trans aU.o))) ?_;rintro e br ⟨⟨ak,aS,az,bO,bF,bP,rfl,I,ar⟩,b2⟩;simp only at I ar⊢;have aL:=dE 0 0 br (eZ ak j.length aS az p.length bO bF o.length bP);have aR:M _:=(ar.gs I).keep aL;have bM:M _:=gQ br (.slice ak j.length aS) (.slice az p.length bO) (.slice bF o.length bP);have ag:M _:=aU.o.trans (b2.trans aL);simp only at aR;have aP:M _:=uY aS bO bP aW bA bs aR.o (GS.keep y.o ag.o) bf.o.1 bf.o.2.1 bf.o.2.2;clear I ar b2 aL aU bb aR;go_upto_region 23 with fail;generalize br.alloc _=ch at bM ag aP⊢;obtain⟨_,aw,u1,ap⟩:=bM.o;obtain⟨_,bT,bg,a8⟩:=x.o.keep ag.o;go_wp2_with fail;clear aw u1 ap bT bg a8;refine yai aP.o ?_;rintro e cl ⟨rfl,b3⟩;have R:M _:=ai.o.trans (ag.o.trans b3);clear b3 aP;go_wp2_with fail;go_ret;exact⟨rfl,R.o⟩
end
section
open Go.RowKit Flt
variable{w D:World}{lo hi C T n:Nat}{a:Option Addr}
theorem CX{args bm bP}(z:Calls prog f args w bm)(J:Calls prog f args w bP)(af:∀e D,bm e D->∃v,e=.returned v)(ad:∀e D,bP e D->∃v,e=.returned v)(hi:prog.inits.idxOf? f=none):∃v D,bm (.returned v) D/\bP (.returned v) D:=by
 obtain⟨n1,aH,aa,K,r1⟩:=Calls.done (R:=λv D=>bm (.returned v) D) (yai z λe D r=>by obtain⟨v,rfl⟩:=af e D r;exact r) hi;obtain⟨aI,aN,Z,a6,bp⟩:=Calls.done (R:=λv D=>bP (.returned v) D) (yai J λe D r=>by obtain⟨v,rfl⟩:=ad e D r;exact r) hi;have a1:=runN_add prog n1 aI (lone (Frame.enter prog f args .normal) [] w);have a2:=runN_add prog aI n1 (lone (Frame.enter prog f args .normal) [] w);grind
theorem K7{ys}(f:IS w lo hi a n G)(g:IS w C T a n ys):G=ys:=by
 refine List.ext_getElem (f.len.trans g.len.symm) λk z J=>?_;have H:k<n:=iv f.len z
 obtain aC|⟨b,aO,e,_,_,_,bw⟩:=f.at_
 ·omega
 obtain aC|⟨j,F,m,_,_,_,c⟩:=g.at_<;>simp_all<;>grind
theorem Pz{ys}(f:VS w lo hi a n G)(g:VS w C T a n ys):G=ys:=by
 refine List.ext_getElem (f.len.trans g.len.symm) λk z J=>?_;have H:k<n:=iv f.len z
 obtain aC|⟨b,aO,e,_,_,_,bw⟩:=f.at_
 ·omega
 obtain aC|⟨j,F,m,_,_,_,c⟩:=g.at_
 ·omega
 rw[e]at m;cases m;have p:=bw k H;have q:=c k H;rw[yah,yal z]at p;rw[yah,yal J]at q;simp only[Option.getD_some]at p q;generalize G[k]=u at p⊢;generalize ys[k]=v at q⊢;have c0:=p.c0.symm.trans q.c0;have c1:=p.c1.symm.trans q.c1;have c2:=p.c2.symm.trans q.c2;have c3:=p.c3.symm.trans q.c3;have c4:=p.c4.symm.trans q.c4;have c5:=p.c5.symm.trans q.c5;obtain⟨aw,u1,ap,u3,u4,u5⟩:=u;simp_all
theorem PA{ax e}(f:PJ w ab e D)(g:PJ w ax e D):ab=ax:=by
 obtain⟨⟨a1,c1,a2,c2,a3,c3,rfl,I,av⟩,_⟩:=f;obtain⟨⟨L,aW,bi,bA,U,bs,e,i1,b⟩,_⟩:=g;have p:=av.gs I;have q:=b.gs i1;simp only[Ending.returned.injEq,Value.tuple.injEq,Array.mk.injEq,List.cons.injEq,Value.agg.injEq,Value.slice.injEq,Value.int.injEq,and_true,true_and]at e;obtain⟨⟨⟨rfl,n1,_⟩,⟨rfl,aI,_⟩,⟨rfl,aE,_⟩⟩,aj,F⟩:=e;rw[<-n1,<-aI,<-aE]at q;have K:=K7 p.i q.i;have a6:=Pz p.v q.v;have ag:=K7 p.o q.o;obtain⟨_,_,_,_,_⟩:=ab;obtain⟨_,_,_,_,_⟩:=ax;simp_all
theorem Gx{e}(f:PJ w ab e D):∃v,e=.returned v:=by
 obtain⟨⟨a1,c1,a2,c2,a3,c3,rfl,_⟩,_⟩:=f;grind
end
section
open Go.ChangeShapes Go.WideShapes Go.ChangeAt Go.RowKit Flt
theorem CY:prog.cellsOf 5=1:=by kernel_rfl
theorem Gy:laidOutB prog=true:=by kernel_rfl
theorem zZ{Y enc base}{d:DataW Y}{ps}(h:DataW.Trod enc prog w base q o 22 (.slice a n cap) d ps):n<=cap/\∃G,YS w a n G:=by
 obtain⟨t,bi⟩:=h;obtain⟨bk,_⟩|⟨x,l,c,m,g,aI,aA,s,bk,_,ab,_,aR,_,F⟩:=Deep.open_slice1 underlying22 CY bi
 ·simp[Value.cells]at bk;obtain⟨rfl,rfl,rfl⟩:=bk;exact⟨yac,[],rfl,by simp,.inl rfl⟩
 simp[Value.cells]at bk;obtain⟨rfl,rfl,rfl⟩:=bk;refine⟨ab,?_⟩;have u:n<=m:=by grind
 have key:∀i,i<n->∃b:Int,w.cell? _=some _/\0<=b/\b<256:=λi hi=>by
  obtain⟨z,J⟩:=F i xaa
  obtain⟨b,e,X⟩:=DataW.trod_int underlying5 J
  simp at e
  have I:0<=b/\b<256:=by
   have:=X.2
   simp[Lit.wf,IntKind.min,IntKind.max,IntKind.signed,IntKind.bits]at this
   omega
  exact⟨b,by rw[z,e],I.1,I.2⟩
 obtain⟨f,j⟩:=Deep.choose_lt key;refine⟨(List.range n).map f,by simp,?_,?_⟩
 ·simp_all
 obtain aC|aC:=Nat.eq_zero_or_pos n
 ·exact .inl aC
 obtain⟨b,aO,r⟩:=x;have p:r=none:=by simpa[Addr.add] using World.cell?_spot (j 0 aC).1
 subst p
 have J:∀k,k<n->w.cell? ⟨b,aO+k,_⟩=some (.int _ (((List.range n).map f).getD k 0)):=λk H=>by
  have z:=(j k H).1
  rw[show((List.range n).map f).getD k 0=f k by grind]
  by_cases L:k=0
  ·subst L;simpa[Addr.add] using z
  ·simpa[Addr.add,L] using z
 have I:=World.block_lt_of_cell? (h:=J 0 aC);grind
end
section
open Go.ChangeShapes Go.WideShapes Go.ChangeAt Go.WideElems Go.RowKit Flt
namespace PParse
abbrev lst:List (String×DataW Unit):=[("errors.errorType",Rows.laid_errors_errorType)]
theorem et:prog.globalNamed "errors.errorType"=some 0:=by kernel_rfl
theorem rt:(prog.cutTypes.find? (·.1== "internal/reflectlite.rtype")).map (·.2)=some 151:=by kernel_rfl
theorem NL:((List.range 333).filter λt=>prog.rowNamed t [101,114,114,111,114])=[77]:=by kernel_rfl
theorem size:prog.types.size=333:=by kernel_rfl
theorem CZ{W}(h:laidMetH prog lst W):ErT W:=by
 have h':laidMet _ [] W/\handlesMet _ lst W:=h;obtain⟨name,u,p,K,a6,ag,b2,bU⟩:=h'.2 _ (List.mem_singleton.2 rfl);have b:=(h4 K).symm;subst b;obtain rfl:=h4 (rt.symm.trans a6);have aR:p∈(List.range 333).filter λt=>prog.rowNamed t _:=List.mem_filter.2 ⟨List.mem_range.2 (by rw[<-size];exact ag),b2⟩;rw[NL]at aR;obtain rfl:=List.mem_singleton.1 aR;have aN:typeHandle prog 77=.pointer (some ⟨7,77,none⟩):=by kernel_rfl
 rw[aN]at bU;have:=World.var?_cell et bU 0;unfold ErT;simpa using this
noncomputable def K8 (os:Os):World:=
 let w0:=World.holding prog os ⟨#[],#[],[]⟩
 {w0 with heap:=w0.heap.modify 0 fun
   |.cells _ t frozen=>.cells #[.iface 151 (.agg #[.pointer (some ⟨7,77,none⟩)])] t frozen
   |o=>o}
theorem C1(os){args}:laidMetH prog lst ((K8 os).forCall (λ_ _=>0) ⟨#[],args,[]⟩).memory:=
 laidMetH_of_parts (laidMet_nil _ _) (by kernel_rfl)
def Walks:Prop:=∀(W:World) (a:Option Addr) (n c:Nat) (bs:List Int),YS W a n bs->ErT W->n<=1048576->Calls prog 3 #[.slice a n c] W λe w'=>e=.returned (.bool true)/\Kept 0 0 W w'
theorem lifted(X:Walks)(os)(b:os.Started)(Y)(enc:TypeId×Value->Y):
  ReturnsInHanded {} Tryz.checked os 3 .any (λw args=>(Rows.fnExactParseSourceSpec.pre enc prog Tryz.f3 [] false w args/\laidMetH prog lst w)/\sizedMet enc prog Tryz.f3 (OpenSpec.ofChange Rows.fnExactParseSourceSpec) false w args)
   (Rows.fnExactParseSourceSpec.post enc prog Tryz.f3 false true false false):=by
 refine returnsInHanded_of_change_and (C:=Tryz.checked) (X:=λw _=>laidMetH prog lst w) (λ_ _ _ aN h=>h.of_heap aN) own b (by kernel_rfl) func3
  (ChangeSpec.witness_at (enc:=enc) (C:=Tryz.checked) (os:=os) (X:=λw _=>laidMetH prog lst w) false (K8 os) #[.slice none 0 0] 8 rfl (by kernel_rfl) (by kernel_rfl) (by kernel_rfl) (by kernel_rfl) (by kernel_rfl) (C1 os)) ?_
 intro W base args C s z i O _ _ I _;have y:∀(j:Nat) t v,Tryz.f3.params[j]? =some t->args[j]? =some v->Value.okWide prog W _ _ t v:=i;have n:=O;obtain⟨p,q,f,k,rfl,K,ae⟩:=O;have bo:DataW.TrodAll _ prog W 0 _ _ _ _ _ p:=f;have F:DataW.TrodVars _ prog W _ [] _ q:=k;rw[Tryz.params3]at bo y;obtain⟨bh,vs0,cc,G,b1,bT,H,rfl,rfl,aC,b2⟩:=trodAll_cons bo;obtain⟨rfl,rfl,rfl⟩:=trodAll_nil b2;obtain rfl:args=#[bh]:=by cases args;simp_all
 obtain⟨rfl,rfl⟩:s=[]/\q=[]:=by
  cases s with
  |nil=>exact⟨rfl,F⟩
  |cons g r=>exact absurd F (by intro h;cases h)
 have o:∀x∈b1,x.block<W.heap.size:=by obtain⟨m,aR⟩:=aC;exact DataW.trod_lt m _ _ _ aR
 obtain⟨a,la,J,rfl⟩:=okWide_slice underlying22 (y 0 _ _ rfl rfl);obtain⟨_,B,en⟩:=zZ aC;have l:=CZ I;clear f i
 have u:Calls prog 3 #[.slice a la J] W λe D=>e=.returned (.bool true)/\Below W.heap.size W D:=by
  by_cases ab:la<=1048576
  ·exact(X W a _ _ _ en l ab).mono λ_ _ h=>⟨h.1,h.2.below⟩
  exact(wE W a ab).mono λ_ _ h=>⟨h.1,h.2.below⟩
 refine u.mono λe A ⟨bl,c⟩=>?_;subst bl;exact⟨_,rfl,_,_,_,[],_,[],n,trodAll_mk1 (shut_bool underlying4 _),(trodAll_cons_mk (Below.trod Gy (by kernel_rfl) (of_decide_eq_true (by kernel_rfl)) aC c o) trodAll_mk0),rfl,c.frame _,λh=>by cases h⟩
end PParse
theorem yB(X:PParse.Walks):Rows.FnExactParseSourceSaid:=
 OpenClaim.holds_of_wide 3 Tryz.f3 rfl rfl rfl rfl rfl rfl rfl ⟨rfl,rfl,rfl,rfl,rfl⟩ rfl rfl rfl rfl rfl (by kernel_rfl) func3 (by kernel_rfl)
  (of_decide_eq_true (by kernel_rfl)) (by unfold Func.isWrapper;first|(rw[h3 (by decide+kernel)];kernel_rfl)|(rw[h2 (by decide+kernel)];exact⟨rfl,rfl⟩))
  (λos b Y enc _=>PParse.lifted X os b Y enc)
end
section
open Go
theorem wG(X:PParse.Walks):Rows.FnExactParseSourceCardSaid:=
 Claim7.holds_tied_plain_at .later [] [.handle] true _ true
  (yB X) (λ_ h=>by cases h) (by kernel_rfl) (λ_ h=>by cases h) fnExactParseSource_row_tie rfl ⟨rfl,rfl⟩ (by kernel_rfl) rfl
  (λf fn bi aC=>by
   obtain rfl:f=3:=h4 ((show prog.funcNamed "loop.example/s08086/laws.FnExactParseSource"=some 3 by kernel_rfl).symm.trans bi) |>.symm
   obtain rfl:fn=Tryz.f3:=(h4 (func3.symm.trans aC)).symm
   exact⟨by kernel_rfl,λj t az=>by
    rw[Tryz.params3]at az
    have al:t=22:=by grind
    subst al
    exact(show prog.wantsStandIn 22=false by kernel_rfl)⟩)
  (by kernel_rfl)
