import Derived.Test.YtcagphgmfbjneaaGreatP30
import Derived.Test.YtcagphgmfbjneaaGreatP32
import Derived.Test.YtcagphgmfbjneaaGreatP18
import Derived.Test.YtcagphgmfbjneaaGreatP17
namespace Go.Proofs.Z
variable{Zp:Prop}
open Tryz Go.RowKit Flt
set_option maxRecDepth 1000000
set_option maxHeartbeats 0
section
attribute[local go_sem] eE eD eC
variable{H bn aU aH:World}{base p n C S d I Vaa k m z g cap:Nat}{bL U aV bF aa u v:Value}{b:Option Addr}{s:Ste}{aL:Int}{ss:List Ste}{a8:List Spn}{o:Obj}
def iS:List Ste->List Value
 |[]=>[]
 |v::r=>v.cells++iS r
theorem rh(a b):iS (a++b)=iS a++iS b:=by
 induction a<;>grind[iS]
theorem wK(v):iS [v]=v.cells:=by simp[iS]
theorem vg:∀(a:List Ste) (k j:Nat),k<a.length->j<8->(iS a)[k*8+j]? =(a.getD k Ste.zero).cells[j]?
 |[],k,j,O,_=>by simp at O
 |x::r,0,j,_,hj=>by
  grind[iS,Ste.cells,yaq]
 |x::r,k+1,j,O,hj=>by
  have:(x::r).getD (k+1) Ste.zero=r.getD k _:=rfl
  rw[this,iS,yas (by grind[Ste.cells,yaq])]
  have e:(k+1)*8+j-x.cells.length=k*8+j:=by grind[Ste.cells,yaq]
  rw[e]
  exact vg r k j (by grind) hj
def iB:List Spn->List Value
 |[]=>[]
 |v::r=>v.cells++iB r
theorem nR(a b):iB (a++b)=iB a++iB b:=by
 induction a<;>grind[iB]
theorem rR(v):iB [v]=v.cells:=by simp[iB]
theorem vh:∀(a:List Spn) (k j:Nat),k<a.length->j<2->(iB a)[k*2+j]? =(a.getD k Spn.zero).cells[j]?
 |[],k,j,O,_=>by simp at O
 |x::r,0,j,_,hj=>by
  grind[iB,Spn.cells]
 |x::r,k+1,j,O,hj=>by
  have:(x::r).getD (k+1) Spn.zero=r.getD k _:=rfl
  rw[this,iB,yas (by grind[Spn.cells])]
  have e:(k+1)*2+j-x.cells.length=k*2+j:=by grind[Spn.cells]
  rw[e]
  exact vh r k j (by grind) hj
structure KB(W:World)(p:Nat)(b0 b1 b2 b3:Value):Prop where
 sz:p<W.heap.size
 q0:W.cell? ⟨p,0,none⟩=some b0
 q1:W.cell? ⟨p,1,none⟩=some b1
 q2:W.cell? ⟨p,2,none⟩=some b2
 q3:W.cell? ⟨p,3,none⟩=some b3
 f0:W.frozen? ⟨p,0,none⟩=false
 f1:W.frozen? ⟨p,1,none⟩=false
 f2:W.frozen? ⟨p,2,none⟩=false
 f3:W.frozen? ⟨p,3,none⟩=false
theorem KB.keepC{W S}(t:KB W p bL U aV aa)(k:Chg S W H)(aO:¬S p):KB H p bL U aV aa:=by
 have e:∀o,H.cell? ⟨p,o,none⟩=W.cell? _:=λo=>World.cell?_of_block (k.block p t.sz aO);have f:∀o,H.frozen? ⟨p,o,none⟩=W.frozen? _:=λo=>World.frozen?_of_block (k.block p t.sz aO);exact⟨yak t.sz k.size,i1 e t.q0,i1 e t.q1,i1 e t.q2,i1 e t.q3,i1 f t.f0,i1 f t.f1,i1 f t.f2,i1 f t.f3⟩
theorem KB.keep{W}(t:KB W p bL U aV aa)(k:Kept 0 0 W H):KB H p bL U aV aa:=t.keepC (S:=λ_=>False) k.chg (λh=>h)
theorem KB.put1{W}(t:KB W p bL U aV aa)(v):KB (W.setCell ⟨p,1,none⟩ v) p bL v aV aa:=by
 cases t;constructor<;>first|exact tO|simp_all
theorem KB.put2{W}(t:KB W p bL U aV aa)(v):KB (W.setCell ⟨p,2,none⟩ v) p bL U v aa:=by
 cases t;constructor<;>first|exact tO|simp_all
theorem KB.put3{W}(t:KB W p bL U aV aa)(v):KB (W.setCell ⟨p,3,none⟩ v) p bL U aV v:=by
 cases t;constructor<;>first|exact tO|simp_all
structure LP(W w1:World)(C B:Nat)(x0 u v:Value)(k m:Nat)(pk:Int)(ss:List Ste)(os:List Spn):Prop where
 bx:KB W C x0 u v (.int .i64 pk)
 pu:W.ownsRow B 47 8 u k (iS ss)
 pv:W.ownsRow B 53 2 v m (iB os)
 ne:∀g,u.ownBlock=some g->v.ownBlock≠some g
 ch:Chg (λb=>b=C\/B<=b) w1 W
 bz:B<=W.heap.size
theorem LP.keep{W}(f:LP W aH C I bF u v k m aL ss a8)(q:Kept 0 0 W H):LP H aH C I bF u v k m aL ss a8:=
 ⟨f.bx.keep q,eN f.pu q,eN f.pv q,f.ne,Chg.trans f.ch q.chg,yao f.bz q.size⟩
theorem LP.mid{W}(f:LP W aH C I bF u v k m aL ss a8)(aj:C<I)(aK:((W.alloc o).drewN z).grownBy bn u.ownBlock):KB bn C bF u v (h1 aL):=by
 have bj:=(eA 0 0 W o).trans (eH 0 0 _ z);exact(f.bx.keep bj).keepC (fT aK) (λc=>ix ((eG f.pu c).1))
theorem LP.putU{W}(f:LP W aH C I bF u v k m aL ss a8)(aj:C<I)(ho:bn.ownsRow I 47 8 (h0 g (k+1) cap) (k+1) (iS ss++s.cells))(aK:((W.alloc o).drewN z).grownBy bn u.ownBlock)(az:u.ownBlock=some g\/g=W.heap.size+1):
  LP (bn.setCell ⟨C,1,none⟩ (h0 g (k+1) cap)) aH C I bF (h0 g (k+1) cap) v (k+1) m aL (ss++[s]) a8:=by
 have bj:=(eA 0 0 W o).trans (eH 0 0 _ z);have aB:=fT aK;have K:∀b,u.ownBlock=some b->_:=λb hb=>(eG f.pu hb).1;have a:=eU (lo:=C) (hi:=C+1) bn ⟨C,1,none⟩ (h0 g (k+1) cap) yac;have b8:=(eG ho (k:=g) rfl).1;refine⟨(LP.mid f aj aK).put1 _,?_,?_,?_,?_,?_⟩
 ·rw[rh,wK];exact eI ho (λc=>by simp[Value.ownBlock]at c;omega)
 ·refine eI (fe (eN f.pv bj) aB ?_) (λc=>ix ((eG f.pv c).1));intro b hb c;exact f.ne b c hb
 ·exact xgu
 ·exact Chg.trans f.ch (Chg.trans bj.chg (Chg.trans (aB.mono λb _ c=>.inr (K b c)) (a.chg1 (.inl rfl))))
 exact xir
theorem LP.midV{W}(f:LP W aH C I bF u v k m aL ss a8)(aj:C<I)(aK:((W.alloc o).drewN z).grownBy bn v.ownBlock):KB bn C bF u v (h1 aL):=by
 have bj:=(eA 0 0 W o).trans (eH 0 0 _ z);exact(f.bx.keep bj).keepC (fT aK) (λc=>ix ((eG f.pv c).1))
theorem LP.putV{W s}(f:LP W aH C I bF u v k m aL ss a8)(aj:C<I)(ho:bn.ownsRow I 53 2 (h0 g (m+1) cap) (m+1) (iB a8++s.cells))(aK:((W.alloc o).drewN z).grownBy bn v.ownBlock)(az:v.ownBlock=some g\/g=W.heap.size+1):
  LP (bn.setCell ⟨C,2,none⟩ (h0 g (m+1) cap)) aH C I bF u (h0 g (m+1) cap) k (m+1) aL ss (a8++[s]):=by
 have bj:=(eA 0 0 W o).trans (eH 0 0 _ z);have aB:=fT aK;have K:∀b,v.ownBlock=some b->_:=λb hb=>(eG f.pv hb).1;have a:=eU (lo:=C) (hi:=C+1) bn ⟨C,2,none⟩ (h0 g (m+1) cap) yac;have b8:=(eG ho (k:=g) rfl).1;refine⟨(LP.midV f aj aK).put2 _,?_,?_,?_,?_,?_⟩
 ·refine eI (fe (eN f.pu bj) aB ?_) (λc=>ix ((eG f.pu c).1));intro b hb c;exact f.ne b hb c
 ·rw[nR,rR];exact eI ho (λc=>by simp[Value.ownBlock]at c;omega)
 ·exact xgv
 ·exact Chg.trans f.ch (Chg.trans bj.chg (Chg.trans (aB.mono λb _ c=>.inr (K b c)) (a.chg1 (.inl rfl))))
 exact xir
theorem LP.putP{W}(f:LP W aH C I bF u v k m aL ss a8)(aj:C<I)(x):LP (W.setCell ⟨C,3,none⟩ (h1 x)) aH C I bF u v k m x ss a8:=by
 have a:=eU (lo:=C) (hi:=C+1) W ⟨C,3,none⟩ (h1 x) yac;exact⟨f.bx.put3 _,eI f.pu (λc=>ix ((eG f.pu c).1)),eI f.pv (λc=>ix ((eG f.pv c).1)),f.ne,Chg.trans f.ch (a.chg1 (.inl rfl)),yao f.bz a.size⟩
theorem Nj(w:World)(v:Ste)(m):∀j u,v.cells[j]? =some u->((w.alloc v.box).drewN m).cell? ((⟨w.heap.size,0,none⟩:Addr).add j)=some u:=
 World.news_of_block (w:=w.alloc v.box) (t:=47) (fr:=(0,0)) (cs:=#[h1 v.op,h1 v.len,h1 v.n,h1 v.dst,h1 v.a,h1 v.b,h1 v.c,.float .f64 v.k]) (oE w _)
theorem QC(v:Ste):∀u∈v.cells,u.oneCell'=true:=by
 intro u a6;simp[Ste.cells]at a6;rcases a6 with rfl|rfl|rfl|rfl|rfl|rfl|rfl|rfl<;>rfl
theorem II(w:World)(v:Spn)(m):∀j u,v.cells[j]? =some u->((w.alloc v.box).drewN m).cell? ((⟨w.heap.size,0,none⟩:Addr).add j)=some u:=
 World.news_of_block (w:=w.alloc v.box) (t:=53) (fr:=(0,0)) (cs:=#[h1 v.off,h1 v.len]) (oE w _)
theorem Pb(v:Spn):∀u∈v.cells,u.oneCell'=true:=by
 intro u a6;simp[Spn.cells]at a6;rcases a6 with rfl|rfl<;>rfl
theorem nT(w g bL U aV aa)(c0:w.cell? ⟨g,0,none⟩=some bL)(c1:w.cell? ⟨g,1,none⟩=some U)(c2:w.cell? ⟨g,2,none⟩=some aV)(c3:w.cell? ⟨g,3,none⟩=some aa)(x y z u):
  (setC4 w g x y z u).cell? ⟨g,0,none⟩=some x/\(setC4 w g x y z u).cell? ⟨g,1,none⟩=some y/\(setC4 w g x y z u).cell? ⟨g,2,none⟩=some z/\(setC4 w g x y z u).cell? ⟨g,3,none⟩=some u:=by
 unfold setC4;refine⟨?_,?_,?_,?_⟩<;>exact tO
theorem lG(w:World):KB (w.alloc lC) w.heap.size (.slice none 0 0) (.slice none 0 0) (.slice none 0 0) (h1 0):=by
 constructor;all_goals first|(go_simp;done)|(simp;done)
theorem Pc(w:World)(x):KB (w.alloc (.cells #[x,.slice none 0 0,.slice none 0 0,h1 0] 27)) w.heap.size x (.slice none 0 0) (.slice none 0 0) (h1 0):=by
 constructor;all_goals first|(go_simp;done)|(simp;done)
theorem IJ(w x):LP (w.alloc (.cells #[x,.slice none 0 0,.slice none 0 0,h1 0] 27)) w w.heap.size (w.heap.size+1) x (.slice none 0 0) (.slice none 0 0) 0 0 0 [] []:=
 ⟨Pc w x,yaw _ _ _ _,yaw _ _ _ _,λg h=>by simp[Value.ownBlock]at h,(eA 0 0 w _).chg,by simp⟩
theorem AtT.put2{W}(t:AtT W S 0 s)(x):AtT (W.setCell ⟨S,2,none⟩ (h1 x)) S 0 ⟨s.op,s.len,x,s.dst,s.a,s.b,s.c,s.k⟩:=by
 cases t;constructor<;>first|exact tO|simp_all
theorem AtT.setC4{W}(t:AtT W S 0 s)(x):AtT (W.setCell ⟨S,4,none⟩ (h1 x)) S 0 ⟨s.op,s.len,s.n,s.dst,x,s.b,s.c,s.k⟩:=by
 cases t;constructor<;>first|exact tO|simp_all
theorem AtT.put5{W}(t:AtT W S 0 s)(x):AtT (W.setCell ⟨S,5,none⟩ (h1 x)) S 0 ⟨s.op,s.len,s.n,s.dst,s.a,x,s.c,s.k⟩:=by
 cases t;constructor<;>first|exact tO|simp_all
theorem AtT.put6{W}(t:AtT W S 0 s)(x):AtT (W.setCell ⟨S,6,none⟩ (h1 x)) S 0 ⟨s.op,s.len,s.n,s.dst,s.a,s.b,x,s.k⟩:=by
 cases t;constructor<;>first|exact tO|simp_all
theorem AtT.put7{W}(t:AtT W S 0 s)(x):AtT (W.setCell ⟨S,7,none⟩ (.float .f64 x)) S 0 ⟨s.op,s.len,s.n,s.dst,s.a,s.b,s.c,x⟩:=by
 cases t;constructor<;>first|exact tO|simp_all
structure RD(W w3:World)(C B Vaa S:Nat)(x0 u:Value)(k:Nat)(pk:Int)(ss:List Ste)(v:Vl)(s:Ste):Prop where
 lp:LP W w3 C B x0 u (.slice none 0 0) k 0 pk ss []
 va:At W Vaa 0 v
 ta:AtT W S 0 s
 tf:∀o,W.frozen? ⟨S,o,none⟩=false
 lt:S<W.heap.size
 vs:Vaa<S
 bv:B<=Vaa
 cb:C<B
 un:∀g,u.ownBlock=some g->g<Vaa
theorem RD.start{W v}(w:LP W aU C I bF u (.slice none 0 0) k 0 aL ss [])(bj:At W Vaa 0 v)(az:W.heap.size=Vaa+1)(eb:I<=Vaa)(cb:C<I)(l:∀g,u.ownBlock=some g->g<Vaa)(s):RD (W.alloc s.box) aU C I Vaa (Vaa+1) bF u k aL ss v s:=by
 have q:=eA 0 0 W s.box;have e:∀g o,g<W.heap.size->_:=λg o h=>q.cell (p:=⟨g,o,none⟩) h xaa;obtain⟨c0,c1,c2,c3,c4,c5⟩:=bj;have aQ:=jD W s;rw[az]at aQ;refine⟨w.keep q,⟨?_,?_,?_,?_,?_,?_⟩,aQ,λo=>by rw[<-az];simp,by simp;omega,by omega,eb,cb,l⟩;all_goals grind
theorem RD.set{W v s'}(f:RD W aU C I Vaa S bF u k aL ss v s){o x}(az:AtT (W.setCell ⟨S,o,none⟩ x) S 0 s'):RD (W.setCell ⟨S,o,none⟩ x) aU C I Vaa S bF u k aL ss v s':=by
 have a:=eU (lo:=S) (hi:=S+1) W ⟨S,o,none⟩ x yac;have F:=f.vs;have h2:=f.bv;have h3:=f.cb;have h4:=f.lt;have e:∀q,(W.setCell ⟨S,o,_⟩ x).cell? ⟨Vaa,q,_⟩=W.cell? _:=λq=>eV _ _ _ _ _ _ (.inl xaa);refine⟨⟨f.lp.bx.keepC (a.chg1 rfl) xaa,eI f.lp.pu (λc=>ix (f.un _ c)),eI f.lp.pv (λc=>by simp[Value.ownBlock]at c),f.lp.ne,Chg.trans f.lp.ch (a.chg1 (.inr xaa)),yao f.lp.bz a.size⟩,?_,az,λbm=>by simp[f.tf],by simpa using f.lt,F,h2,h3,f.un⟩;obtain⟨c0,c1,c2,c3,c4,c5⟩:=f.va;exact⟨i1 e c0,i1 e c1,i1 e c2,i1 e c3,i1 e c4,i1 e c5⟩
theorem RD.keep{W v}(f:RD W aU C I Vaa S bF u k aL ss v s)(q:Kept 0 0 W H):RD H aU C I Vaa S bF u k aL ss v s:=by
 have e:∀g o,g<W.heap.size->_:=λg o h=>q.cell (p:=⟨g,o,none⟩) h xaa;have F:=f.vs;have h4:=f.lt;obtain⟨c0,c1,c2,c3,c4,c5⟩:=f.va;obtain⟨bR,aM,bi,aI,r,aC,a7,bT⟩:=f.ta;refine⟨f.lp.keep q,⟨?_,?_,?_,?_,?_,?_⟩,⟨?_,?_,?_,?_,?_,?_,?_,?_⟩,λo=>by rw[q.frozen f.lt xaa];exact f.tf o,yak f.lt q.size,F,f.bv,f.cb,f.un⟩;all_goals grind
theorem RD.kept{W v}(f:RD W aU C I Vaa S bF u k aL ss v s)(aj:aU.heap.size<=C):Kept 0 0 aU W:=
 Chg.kept (Kept.refl 0 0 aU) f.lp.ch (λb hb=>ix f.cb)
theorem L4{W xs}(h:W.ownsRow base 47 8 (.slice b n d) n (iS xs))(ai:xs.length=n)(O:∀v∈xs,v.k<18446744073709551616):TS W base W.heap.size b n xs:=by
 refine⟨ai,O,?_⟩;rcases h.2 with⟨_,c⟩|⟨g,cap,ad,e,U,aV,aa,_,ct,bX⟩
 ·exact .inl c
 injection e with ay aB bz;have aK:g<W.heap.size:=by grind
 refine .inr ⟨g,0,ay,U,aK,aK,λk O=>?_⟩
 have al:∀j,j<8->W.cell? ⟨g,0+k*8+j,_⟩=(xs.getD k _).cells[j]?:=λj hj=>by
  rw[cell_of_row W g _ _ _ _ aV,<-Array.getElem?_toList]
  have:(ad.toList.take (n*8))[k*8+j]? =(iS xs)[k*8+j]?:=by rw[bX]
  rw[List.getElem?_take_of_lt xaa,vg _ _ _ xaa hj]at this
  rw[Nat.zero_add]
  exact this
 exact⟨al 0 xaa,al 1 xaa,al 2 xaa,al 3 xaa,al 4 xaa,al 5 xaa,al 6 xaa,al 7 xaa⟩
theorem L5{W xs}(h:W.ownsRow base 53 2 (.slice b n d) n (iB xs))(ai:xs.length=n):PS W base W.heap.size b n xs:=by
 refine⟨ai,?_⟩;rcases h.2 with⟨_,c⟩|⟨g,cap,ad,e,U,aV,aa,_,ct,bX⟩
 ·exact .inl c
 injection e with ay aB bz;have aK:g<W.heap.size:=by grind
 refine .inr ⟨g,0,ay,U,aK,aK,λk O=>?_⟩
 have al:∀j,j<2->W.cell? ⟨g,0+k*2+j,_⟩=(xs.getD k _).cells[j]?:=λj hj=>by
  rw[cell_of_row W g _ _ _ _ aV,<-Array.getElem?_toList]
  have:(ad.toList.take (n*2))[k*2+j]? =(iB xs)[k*2+j]?:=by rw[bX]
  rw[List.getElem?_take_of_lt xaa,vh _ _ _ xaa hj]at this
  rw[Nat.zero_add]
  exact this
 exact⟨al 0 xaa,al 1 xaa⟩
theorem L6{W xs}(h:W.ownsRow base 3 1 (.slice b n d) n (xs.map (Value.int .i64)))(ai:xs.length=n):IS W base W.heap.size b n xs:=by
 rcases Bs h ai with ak|⟨g,e,hb,q⟩
 ·exact⟨ai,.inl ak⟩
 exact⟨ai,.inr ⟨g,0,e,hb,q.lt,q.lt,λk O=>by rw[Nat.zero_add];exact q.at_ k O⟩⟩
end
section
variable{I j:Nat}{ba bb bc:Value}{ss:List Ste}{ins:List Int}{a8:List Spn}
structure OCd(W:World)(B:Nat)(v1 v2 v3:Value)(ins:List Int)(ss:List Ste)(os:List Spn):Prop where
 r1:W.ownsRow B 3 1 v1 ins.length (ins.map (Value.int .i64))
 r2:W.ownsRow B 47 8 v2 ss.length (iS ss)
 r3:W.ownsRow B 53 2 v3 os.length (iB os)
 d12:∀g,v1.ownBlock=some g->v2.ownBlock≠some g
 d13:∀g,v1.ownBlock=some g->v3.ownBlock≠some g
 d23:∀g,v2.ownBlock=some g->v3.ownBlock≠some g
 kl:∀v∈ss,v.k<18446744073709551616
theorem OCd.keepC{W H S}(f:OCd W I ba bb bc ins ss a8)(k:Chg S W H)(aO:∀g,I<=g->g<W.heap.size->¬S g):OCd H I ba bb bc ins ss a8:=
 ⟨fe f.r1 k (λg aK=>aO g (eG f.r1 aK).1 (eG f.r1 aK).2),fe f.r2 k (λg aK=>aO g (eG f.r2 aK).1 (eG f.r2 aK).2),fe f.r3 k (λg aK=>aO g (eG f.r3 aK).1 (eG f.r3 aK).2),f.d12,f.d13,f.d23,f.kl⟩
theorem OCd.keep{W H}(f:OCd W I ba bb bc ins ss a8)(k:Kept 0 0 W H):OCd H I ba bb bc ins ss a8:=f.keepC (S:=λ_=>False) k.chg (λ_ _ _ h=>h)
theorem OCd.mono{W b}(f:OCd W I ba bb bc ins ss a8)(h:b<=I):OCd W b ba bb bc ins ss a8:=
 ⟨gy f.r1 h,gy f.r2 h,gy f.r3 h,f.d12,f.d13,f.d23,f.kl⟩
theorem OCd.cs{W a1 J a3 Z ae ab c1 c2 c3}(f:OCd W I (.slice a1 Z c1) (.slice J ae c2) (.slice a3 ab c3) ins ss a8)(F:ins.length=Z)(h2:ss.length=ae)(h3:a8.length=ab):CS W a1 Z J ae a3 ab ins ss a8:=by
 subst F h2 h3;exact⟨(L6 f.r1 rfl).mono yae yad,(L4 f.r2 rfl f.kl).mono yae yad,(L5 f.r3 rfl).mono yae yad⟩
theorem wL:∀(ss:List Ste) (j q:Nat) (x:Value) (s':Ste),j<ss.length->q<8->s'.cells=(ss.getD j Ste.zero).cells.set q x->iS (ss.set j s')=(iS ss).set (j*8+q) x
 |u::r,0,q,x,s',_,aA,aN=>by
  have a6:u.cells.length=8:=rfl
  rw[List.set_cons_zero,iS,iS,Nat.zero_mul,Nat.zero_add,List.set_append_left _ _ (i1 a6 aA)]
  exact congrArg (· ++iS r) aN
 |u::r,j+1,q,x,s',hj,aA,aN=>by
  have a6:u.cells.length=8:=rfl
  rw[List.set_cons_succ,iS,iS,List.set_append_right _ _ (i3 a6),a6,show(j+1)*8+q-8=j*8+q by omega,wL r j q x _ (by simpa using hj) aA aN]
theorem wM:∀(a8:List Spn) (j q:Nat) (x:Value) (s':Spn),j<a8.length->q<2->s'.cells=(a8.getD j Spn.zero).cells.set q x->iB (a8.set j s')=(iB a8).set (j*2+q) x
 |u::r,0,q,x,s',_,aA,aN=>by
  have a6:u.cells.length=2:=rfl
  rw[List.set_cons_zero,iB,iB,Nat.zero_mul,Nat.zero_add,List.set_append_left _ _ (i1 a6 aA)]
  exact congrArg (· ++iB r) aN
 |u::r,j+1,q,x,s',hj,aA,aN=>by
  have a6:u.cells.length=2:=rfl
  rw[List.set_cons_succ,iB,iB,List.set_append_right _ _ (i3 a6),a6,show(j+1)*2+q-2=j*2+q by omega,wM r j q x _ (by simpa using hj) aA aN]
section
variable{W:World}{I g m c j q:Nat}{u1 u2 u3:Value}{ins:List Int}{ss:List Ste}{a8:List Spn}{x:Value}
theorem OCd.setT(f:OCd W I u1 (h0 g m c) u3 ins ss a8){s'}(hj:j<ss.length)(aA:q<8)(aN:s'.cells=(ss.getD j Ste.zero).cells.set q x)(O:s'.k<18446744073709551616):OCd (W.setCell ⟨g,j*8+q,none⟩ x) I u1 (h0 g m c) u3 ins (ss.set j s') a8:=by
 have e:=gZ f.r2;subst e;have h2:=(f.r2.stored (j*8+q) x).1;refine⟨eI f.r1 λh=>f.d12 _ h rfl,?_,eI f.r3 λh=>f.d23 _ rfl h,f.d12,f.d13,f.d23,λu a6=>?_⟩
 ·rw[List.length_set,wL _ j q x _ hj aA aN];exact h2
 rcases List.mem_or_eq_of_mem_set a6 with c|c
 ·exact f.kl u c
 grind
theorem OCd.setP(f:OCd W I u1 u2 (h0 g m c) ins ss a8){s'}(hj:j<a8.length)(aA:q<2)(aN:s'.cells=(a8.getD j Spn.zero).cells.set q x):OCd (W.setCell ⟨g,j*2+q,none⟩ x) I u1 u2 (h0 g m c) ins ss (a8.set j s'):=by
 have e:=gZ f.r3;subst e;have h2:=(f.r3.stored (j*2+q) x).1;refine⟨eI f.r1 λh=>f.d13 _ h rfl,eI f.r2 λh=>f.d23 _ h rfl,?_,f.d12,f.d13,f.d23,f.kl⟩;rw[List.length_set,wM _ j q x _ hj aA aN];exact h2
end
abbrev Pd(W:World)(g o:Nat)(s:Ste):World:=(((((((W.setCell ⟨g,o,none⟩ (.int .i64 s.op)).setCell ⟨g,o+1,none⟩ (.int .i64 s.len)).setCell ⟨g,o+2,none⟩ (.int .i64 s.n)).setCell ⟨g,o+3,none⟩ (.int .i64 s.dst)).setCell ⟨g,o+4,none⟩ (.int .i64 s.a)).setCell ⟨g,o+5,none⟩ (.int .i64 s.b)).setCell ⟨g,o+6,none⟩ (.int .i64 s.c)).setCell ⟨g,o+7,none⟩ (.float .f64 s.k)
theorem km{s}(hj:j<ss.length):(ss.set j s).getD j Ste.zero=s:=by
 simp_all
theorem OCd.put8{W g m c u1 u3}(f:OCd W I u1 (h0 g m c) u3 ins ss a8)(hj:j<ss.length)(s)(O:s.k<18446744073709551616):OCd (Pd W g (j*8) s) I u1 (h0 g m c) u3 ins (ss.set j s) a8:=by
 have a:(ss.getD j Ste.zero).k<18446744073709551616:=f.kl _ (by simp_all);generalize ho:ss.getD j _=o at a;have ai:∀t,j<(ss.set j t).length:=λt=>by grind
 have ak:=f.setT (q:=0) (x:=.int _ s.op) (s':=⟨s.op,o.len,o.n,o.dst,o.a,o.b,o.c,o.k⟩) hj xaa (i4 ho) a;have F:=ak.setT (q:=1) (x:=.int _ s.len) (s':=⟨_,s.len,_,_,_,_,_,o.k⟩) (ai _) xaa (by rw[km hj];rfl) a;rw[List.set_set]at F;have h2:=F.setT (q:=2) (x:=.int _ s.n) (s':=⟨_,_,s.n,_,_,_,_,o.k⟩) (ai _) xaa (by rw[km hj];rfl) a;rw[List.set_set]at h2;have h3:=h2.setT (q:=3) (x:=.int _ s.dst) (s':=⟨_,_,_,s.dst,_,_,_,o.k⟩) (ai _) xaa (by rw[km hj];rfl) a;rw[List.set_set]at h3;have h4:=h3.setT (q:=4) (x:=.int _ s.a) (s':=⟨_,_,_,_,s.a,_,_,o.k⟩) (ai _) xaa (by rw[km hj];rfl) a;rw[List.set_set]at h4;have bK:=h4.setT (q:=5) (x:=.int _ s.b) (s':=⟨_,_,_,_,_,s.b,_,o.k⟩) (ai _) xaa (by rw[km hj];rfl) a;rw[List.set_set]at bK;have b3:=bK.setT (q:=6) (x:=.int _ s.c) (s':=⟨_,_,_,_,_,_,s.c,o.k⟩) (ai _) xaa (by rw[km hj];rfl) a;rw[List.set_set]at b3;have bZ:=b3.setT (q:=7) (ai _) xaa (by rw[km hj];rfl) O;rw[List.set_set]at bZ;exact bZ
end
section
attribute[local go_sem] eE eD eC
variable{S:Nat->Prop}{H:World}{k P n I cap i:Nat}{s:Ste}{a:Option Addr}{ins bs:List Int}{ss:List Ste}{a8:List Spn}
theorem sN(w){bW rest o a Q}(au:o.guard=none)(s x)
  (ho:o.op=.call {callee:=.builtin .append,args:=#[s,x],argTypes:=#[25,25]})
  (I) (u) (vs) (aw:a.eval s=u) (bq:w.ownsRow I 53 2 u vs.length (iB vs))
  (b) (v) (ap:a.eval x=h0 b 1 1) (d:∀j u,v.cells[j]? =some u->w.cell? ((⟨b,0,none⟩:Addr).add j)=some u)
  (f:vs.length+1<=1000000) (ae:I<=w.heap.size)
  (h:∀g cap n B,n=(vs++[v]).length->B.ownsRow I 53 2 (h0 g n cap) n (iB (vs++[v]))->Chg (λb=>u.ownBlock=some b) w B->(u.ownBlock=some g\/g=w.heap.size)->wpList prog bW Q rest (a.put o.dst (h0 g n cap)) B):wpList prog bW Q (o::rest) a w:=by
 obtain⟨b1,hi,hz0,hz1,hz2⟩:=info_parts xH;refine wpList_append_lies w au s x _ ho I 53 _ _ 2 _ underlying25 hi hz0 hz1 hz2 rfl xab u _ _ aw bq _ 1 1 _ ap rfl d (Pb v) xab (by unfold maxLen;omega) xaa ae _ rfl ?_;intro g cap B F h2 h3 _;have e:vs.length+1=(vs++[v]).length:=by grind
 rw[e]at F⊢;refine h g _ _ _ rfl ?_ (fT h2) h3;rw[nR,rR];exact F
theorem OCd.keepO{W ba bb bc}(f:OCd W I ba bb bc ins ss a8)(k:Chg S W H)(aO:∀g,(ba.ownBlock=some g\/bb.ownBlock=some g\/bc.ownBlock=some g)->¬S g):OCd H I ba bb bc ins ss a8:=
 ⟨fe f.r1 k λg aK=>aO g (.inl aK),fe f.r2 k λg aK=>aO g (.inr (.inl aK)),fe f.r3 k λg aK=>aO g (.inr (.inr aK)),f.d12,f.d13,f.d23,f.kl⟩
structure Bx8(W:World)(S:Nat)(s:Ste):Prop where
 lt:S<W.heap.size
 c:∀q,q<8->W.cell? ⟨S,q,none⟩=s.cells[q]?
 fz:∀o,W.frozen? ⟨S,o,none⟩=false
theorem Bx8.set{W S q s' x}(h:Bx8 W S s)(aA:q<8)(aN:s'.cells=s.cells.set q x):Bx8 (W.setCell ⟨S,q,none⟩ x) S s':=by
 have ai:s.cells.length=8:=rfl;refine⟨by simpa using h.lt,λr aF=>?_,λo=>by simp[h.fz o]⟩;rw[aN];by_cases e:r=q
 ·subst e;rw[List.getElem?_set_self xaa];exact fy _ _ _ _ _ ((h.c r aF).trans (yam xaa))
 rw[eV _ _ _ _ _ _ (.inr (Ne.symm e)),List.getElem?_set_ne (λc=>e c.symm)];exact h.c r aF
theorem ri{W:World}{e s m g:Nat}{xs}(h:W.ownsRow I e s (h0 g n cap) m xs)(o):W.frozen? ⟨g,o,none⟩=false:=by
 rcases h.2 with⟨af,_⟩|⟨aC,cap',ad,af,U,aV,_⟩<;>grind[World.frozen?]
structure Cy(w0:World)(S:Nat->Prop)(W:World)(P:Nat)(a:Option Addr)(n cap i:Nat)(bs:List Int)(B p:Nat)(u1 u2 u3:Value)(ins:List Int)(ss:List Ste)(os:List Spn)(pk:Int):Prop where
 rd:RdF W P a n cap i bs
 cd:OCd W B u1 u2 u3 ins ss os
 bx:KB W p u1 u2 u3 (.int .i64 pk)
 rs:KB W (p+1) (.slice none 0 0) (.slice none 0 0) (.slice none 0 0) (.int .i64 0)
 lo:P<B/\B<=p
 nr:∀b,(u1.ownBlock=some b\/u2.ownBlock=some b\/u3.ownBlock=some b)->b<p\/p+2<b
 ch:Chg S w0 W
 sp:S P/\w0.heap.size<=p
 nw:∀b,u3.ownBlock=some b->S b\/w0.heap.size<=b
section
variable{C:World}{S:Nat->Prop}{W H:World}{P n cap i I p:Nat}{a:Option Addr}{bs:List Int}{u1 u2 u3:Value}{ins:List Int}{ss:List Ste}{a8:List Spn}{aL:Int}
theorem OCd.kept{l h}(f:OCd W I u1 u2 u3 ins ss a8)(k:Kept l h W H)(bx:h<=I):OCd H I u1 u2 u3 ins ss a8:=
 ⟨fD f.r1 k λ_ e=>.inr (yao bx (eG f.r1 e).1),fD f.r2 k λ_ e=>.inr (yao bx (eG f.r2 e).1),fD f.r3 k λ_ e=>.inr (yao bx (eG f.r3 e).1),f.d12,f.d13,f.d23,f.kl⟩
theorem Kept.chgS{l h}(k:Kept l h W H):Chg (λi=>l<=i/\i<h) W H:=⟨k.os,k.tape,k.output,k.size,λi hi ag=>k.block i hi ag⟩
theorem kI{bL U aV aa q l h}(t:KB W q bL U aV aa)(k:Kept l h W H)(aO:q<l\/h<=q):KB H q bL U aV aa:=t.keepC (S:=λb=>l<=b/\b<h) k.chgS xaa
theorem Cy.next(f:Cy C S W P a n cap i bs I p u1 u2 u3 ins ss a8 aL)(k:Kept P (P+1) W H){j}(r:RdF H P a n cap j bs):Cy C S H P a n cap j bs I p u1 u2 u3 ins ss a8 aL:=
 have:=f.lo
 ⟨r,f.cd.kept k xaa,kI f.bx k xaa,kI f.rs k xaa,f.lo,f.nr,f.ch.new k.chgS λi _ h=>by rw[show i=P by omega];exact f.sp.1,f.sp,f.nw⟩
theorem Cy.keep0(f:Cy C S W P a n cap i bs I p u1 u2 u3 ins ss a8 aL)(k:Kept 0 0 W H):Cy C S H P a n cap i bs I p u1 u2 u3 ins ss a8 aL:=
 ⟨f.rd.keep k yab,f.cd.keep k,f.bx.keep k,f.rs.keep k,f.lo,f.nr,f.ch.new (T:=λ_=>False) k.chg λ_ _ h=>h.elim,f.sp,f.nw⟩
theorem Cy.box(f:Cy C S W P a n cap i bs I p u1 u2 u3 ins ss a8 aL)(q x):Cy C S (W.setCell ⟨p+2,q,none⟩ x) P a n cap i bs I p u1 u2 u3 ins ss a8 aL:=by
 have ai:=f.lo;have k:=eU (lo:=p+2) W ⟨_,q,none⟩ x (.inl ⟨yad,by show p+2<p+3;omega⟩);refine⟨f.rd.keep k (.inl xaa),f.cd.keepO (k.chg1 (S:=λb=>b=p+2) rfl) λg aK c=>?_,kI f.bx k xaa,kI f.rs k xaa,f.lo,f.nr,f.ch.new k.chgS λi F h2=>ix f.sp.2,f.sp,f.nw⟩;have:=f.nr g aK;omega
theorem Cy.peak(f:Cy C S W P a n cap i bs I p u1 u2 u3 ins ss a8 aL)(x):Cy C S (W.setCell ⟨p,3,none⟩ (h1 x)) P a n cap i bs I p u1 u2 u3 ins ss a8 x:=by
 have ai:=f.lo;have k:=eU (lo:=p) (hi:=p+1) W ⟨p,3,none⟩ (h1 x) yac;refine⟨f.rd.keep k (.inl xaa),f.cd.keepO (k.chg1 (S:=λb=>b=p) rfl) λg aK c=>?_,f.bx.put3 _,kI f.rs k xaa,f.lo,f.nr,f.ch.new k.chgS λi F h2=>ix f.sp.2,f.sp,f.nw⟩;have:=f.nr g aK;omega
end
theorem Bx8.keepC{W S T}(h:Bx8 W S s)(k:Chg T W H)(aO:¬T S):Bx8 H S s:=
 ⟨yak h.lt k.size,λq aA=>by rw[World.cell?_of_block (k.block S h.lt aO)];exact h.c q aA,λo=>by rw[World.frozen?_of_block (k.block S h.lt aO)];exact h.fz o⟩
theorem Cy.outs_{C W bn p g9 d cap9 u1 u2 u3 aL x}(f:Cy C S W P a n cap i bs I p u1 u2 u3 ins ss a8 aL)(k:Kept 0 0 W H)(bp:Chg (λb=>u3.ownBlock=some b) H bn)(ao:d=(a8++[x]).length)(ho:bn.ownsRow I 53 2 (h0 g9 d cap9) d (iB (a8++[x])))(aK:u3.ownBlock=some g9\/g9=H.heap.size)(a5:p+2<H.heap.size)(a2:∀b,u3.ownBlock=some b->S b):KB bn p u1 u2 u3 (h1 aL)/\Cy C S (bn.setCell ⟨p,2,none⟩ (h0 g9 d cap9)) P a n cap i bs I p u1 u2 (h0 g9 d cap9) ins ss (a8++[x]) aL:=by
 have t:=f.keep0 k;have ai:=f.lo;have h3:∀b,u3.ownBlock=some b->I<=b/\b<H.heap.size/\(b<p\/p+2<b):=λb hb=>⟨(eG t.cd.r3 hb).1,(eG t.cd.r3 hb).2,f.nr b (.inr (.inr hb))⟩
 have aj:=t.bx.keepC bp (λc=>by grind);have a9:=eU (lo:=p) (hi:=p+1) bn ⟨p,2,none⟩ (h0 g9 d cap9) yac;have aM:g9<p\/p+2<g9:=by grind
 have Z:∀b,u1.ownBlock=some b->b≠g9/\b≠p/\b<H.heap.size:=λb hb=>⟨λe=>by subst e;rcases aK with c|c;exact f.cd.d13 _ hb c;have:=(eG t.cd.r1 hb).2;omega,ix (f.nr b (.inl hb)),(eG t.cd.r1 hb).2⟩
 have ae:∀b,u2.ownBlock=some b->b≠g9/\b≠p/\b<H.heap.size:=λb hb=>⟨λe=>by subst e;rcases aK with c|c;exact f.cd.d23 _ hb c;have:=(eG t.cd.r2 hb).2;omega,by have:=f.nr b (.inr (.inl hb));omega,(eG t.cd.r2 hb).2⟩
 refine⟨aj,?_,⟨?_,?_,?_,f.cd.d12,λb hb c=>(Z b hb).1 (by simpa[Value.ownBlock] using c.symm),λb hb c=>(ae b hb).1 (by simpa[Value.ownBlock] using c.symm),f.cd.kl⟩,aj.put2 _,?_,ai,?_,(t.ch.new bp λi _ h=>a2 i h).new a9.chgS λi F h2=>ix f.sp.2,f.sp,λb h=>?_⟩
 ·exact(nC t.rd bp λb hb=>by grind).keep a9 (.inl xaa)
 ·exact eI (fe t.cd.r1 bp λg h c=>f.cd.d13 g h c) λh=>(Z _ h).2.1 rfl
 ·exact eI (fe t.cd.r2 bp λg h c=>f.cd.d23 g h c) λh=>(ae _ h).2.1 rfl
 ·rw[<-ao];exact eI ho λh=>by simp[Value.ownBlock]at h;omega
 ·exact kI (t.rs.keepC bp (λc=>by grind)) a9 xaa
 ·rintro b (h|h|h)
  ·exact f.nr b (.inl h)
  ·exact f.nr b (.inr (.inl h))
  simp[Value.ownBlock]at h;omega
 have e:b=g9:=by simpa[Value.ownBlock] using h.symm
 subst e;rcases aK with c|c
 ·grind
 exact .inr (ix t.ch.size)
theorem pC{W u xs}(h:W.ownsRow I 47 8 u n (iS xs))(ai:xs.length=n)(O:k<n):∃g cap,u=h0 g n cap/\I<=g/\g<W.heap.size/\AtT W g (k*8) (xs.getD k Ste.zero):=by
 obtain⟨a,cap,rfl⟩:=iL h;rcases h.2 with⟨af,c⟩|⟨g,b7,ad,e,U,aV,aa,b1,ct,bX⟩
 ·omega
 cases e;refine⟨g,_,rfl,U,(eG h rfl).2,?_⟩
 have al:∀j u,(xs.getD k _).cells[j]? =some u->j<8->_:=λj u a6 hj=>by
  have:=h.cells (g:=g) rfl (k*8+j) u (by rw[vg _ _ _ xaa hj];exact a6)
  rwa [iM,Nat.zero_add]at this
 exact⟨al 0 _ rfl xaa,al 1 _ rfl xaa,al 2 _ rfl xaa,al 3 _ rfl xaa,al 4 _ rfl xaa,al 5 _ rfl xaa,al 6 _ rfl xaa,al 7 _ rfl xaa⟩
theorem L7(w:World)(s):Bx8 (w.alloc s.box) w.heap.size s:=by
 refine⟨by simp,λq aA=>?_,λo=>by simp⟩;rw[yav,<-Array.getElem?_toList];rfl
theorem QD{v}(h:s.k<18446744073709551616):(spS k v s).k<18446744073709551616:=by
 grind[spS]
theorem bI.qbw(h:Zp:=by
 have co:V _:=bU;have bE:V _:=r;clear z bU r;have aS:V (((w.alloc (iE a1 Z c1 J ae c2 a3 ab c3 aL)).alloc lC).heap.size=w.heap.size+2):=by show _=_;simp
 have ap:=fp K.ys i;have aN:=fp K.ys (ni bs i);have bA:(nv bs i:Int)%12=(nv bs i%12:Nat):=xaa;have bl:nv bs i%12<12:=Nat.mod_lt _ xaa;have hj:nv bs (ni bs i)%ss.length<ss.length:=Nat.mod_lt _ ak;have al:(nv bs (ni bs i):Int)%ae=(nv bs (ni bs i)%ss.length:Nat):=by grind
 unfold spL;have HN:V _:=λW i f=>iw W P a n cap i bs f;clear l K ad an a5 a2 C;obtain⟨v,aZ⟩:∃v,nv bs (ni bs i)=v:=⟨_,rfl⟩
 obtain⟨j,aW⟩:∃j,v%ss.length=j:=⟨_,rfl⟩
 obtain⟨k,G⟩:∃k,nv bs i%12=k:=⟨_,rfl⟩
 rw[aZ,aW]at al hj;rw[aZ,aW,G];rw[G]at bA bl;have a6:V _:=bg;have bc:¬ae=0:=xaa;have u:=(Int.tmod_eq_emod_of_nonneg xaa).trans al;have aM:(0:Int)<=j:=xaa;have af:(j:Int)<ae:=xaa;clear bg al;go_enter func16,ntmps16;go_wp2_with fail;generalize (w.alloc _).alloc _=W0 at bf aS⊢;refine yaj (HN.o _ _ bf.o.rd) ?_;rintro e ax ⟨rfl,R1,an,aR⟩;have b2:V _:=bf.o.next an R1;have d2:V _:=aR.trans aS.o;clear R1 an aR bf aS;go_wp2_with fail;rw[bA];refine yaj (HN.o _ _ b2.o.rd) ?_;rintro e bo ⟨rfl,R2,av,bd⟩;rw[aZ];have bO:V _:=b2.o.next av R2;have aH:V _:=bd.trans d2.o;clear R2 av bd b2 d2 HN;obtain⟨g,be,az,bi,ai,bw⟩:=pC bO.o.cd.r2 rfl hj;cases az;generalize ep:ss.getD j _=aY at bw;have aK:V _:=ep;have bv:V (g<w.heap.size):=by rcases bO.o.nr g (.inr (.inl rfl)) with c|c;exact c;have:=aH.o;show g<_;omega
 have T:V (Bx8 (bo.alloc aY.box) (w.heap.size+2) aY):=by
  have:=L7 bo aY;rw[aH.o]at this;exact this
 have cp:V _:=bO.o.keep0 (eA 0 0 _ aY.box);obtain⟨bh,aJ,y2,y3,y4,b5,cA,au⟩:=bw;obtain⟨_,aP,ay,aB,bz,_,_,_,_⟩:=bO.o.bx;clear ep bi ai;go_upto_if 30 with fail
 clear bh aJ y2 y3 y4 b5 cA au aP ay aB bz;rw[aH.o];generalize bo.alloc _=aU at T cp⊢
 have a9:V ((-10<=aY.len/\aY.len<=70000)/\(-10<=aY.n/\aY.n<=70000)/\(-10<=aY.dst/\aY.dst<=70000)/\(-10<=aY.a/\aY.a<=70000)/\(-10<=aY.b/\aY.b<=70000)/\(-10<=aY.c/\aY.c<=70000)):=by
  have:=ba aY (by rw[<-aK.o,yai,yam hj];exact List.getElem_mem _);show _/\_;simpa[fw] using this
 clear bO aH bc u ba;rw[show((ss.length:Int)==0)=false from yan xaa];go_cut [] from 29 to 114 (λbb=>∃aa m3 aI,V (Cy w S bb P a n cap (ni bs (ni bs i)) bs I w.heap.size (.slice a1 Z c1) (h0 g ss.length c2) (.slice aa m3 aI) ins ss (spO k v a8) (spP k v aL))/\V (Bx8 bb (w.heap.size+2) (spS k v aY)))
 case first=>
  obtain⟨_,bF,bB,bG,b3,bN,f1,f2,f3⟩:=cp.o.bx;have bL:aU.cell? _=some _:=T.o.c 0 xaa;have U:aU.cell? _=some _:=T.o.c 1 xaa;have aV:aU.cell? _=some _:=T.o.c 2 xaa;have aa:aU.cell? _=some _:=T.o.c 3 xaa;have b1:aU.cell? _=some _:=T.o.c 4 xaa;have ct:aU.cell? _=some _:=T.o.c 5 xaa;have bX:aU.cell? _=some _:=T.o.c 6 xaa;have cR:aU.cell? _=some _:=T.o.c 7 xaa;have b4:=T.o.fz;obtain⟨bQ,b6,cf,b7,ed,fc⟩:=a9.o;have X:(v:Int)<256:=xaa;have cH:(0:Int)<=v:=xaa;rcases (by omega:k=0\/k=1\/k=2\/k=3\/k=4\/k=5\/k=6\/k=7\/k=8\/k=9\/k=10\/k=11) with rfl|rfl|rfl|rfl|rfl|rfl|rfl|rfl|rfl|rfl|rfl|rfl
  ·exact xbx
  ·exact xbx
  ·exact xbx
  ·exact xbx
  ·exact xbx
  ·exact xbx
  ·exact xbx
  ·exact xfg
  ·have bj:=eA 0 0 aU (Spn.box ⟨v%9,v%4⟩);have hlt:=T.o.lt;have bm:(aU.alloc (Spn.box ⟨v%9,v%4⟩)).heap.size=aU.heap.size+1:=by simp
   have b8:=(cp.o.cd.keep bj).r3;have ah:=gZ b8;subst ah;have b0:I<=(aU.alloc (Spn.box ⟨v%9,v%4⟩)).heap.size:=ix cp.o.lo
   go_wp2_with (at_builtin;refine sN _ rfl _ _ rfl I _ _ rfl b8 _ _ rfl (II _ ⟨_,_⟩ 0) xaa b0 ?_;intro g9 cap9 n9 bn ao N aG bK;obtain⟨⟨_,bh,aJ,y2,y3,bx,bD,bJ,bM⟩,(bk:V _)⟩:=Cy.outs_ cp.o bj aG ao N bK xaa bE.o;have d:V _:=(T.o.keepC (T:=λ_=>False) bj.chg (λc=>c)).keepC aG (λc=>by have:=cp.o.nr _ (.inr (.inr c));omega);clear ao N aG bK);go_meet;exact⟨_,_,_,bk.o,d.o.keepC ((eU (lo:=w.heap.size) _ ⟨_,2,_⟩ _ yac).chg1 rfl) xaa⟩
  ·exact xbx
  ·exact xfg
  exact xbx
 case rest=>
  obtain⟨bu,m3,aI,aj,bH⟩:=hcut;obtain⟨aC,cap',az,_,_,bw⟩:=pC aj.o.cd.r2 rfl hj;cases az;have O:(spS k v aY).k<18446744073709551616:=QD (by rw[<-aK.o];exact aj.o.cd.kl _ (by rw[yai,yam hj];exact List.getElem_mem _));have Y:V _:=aj.o.cd.put8 hj _ O;obtain⟨t,ht⟩:∃t,spS k v aY=t:=⟨_,rfl⟩
  rw[ht]at bH Y;have bI:V (spS k v (ss.getD j Ste.zero)=t):=by show _=_;rw[aK.o,ht]
  clear ht;obtain⟨bh,aJ,y2,y3,y4,b5,cA,au⟩:=bw;obtain⟨_,bF,bB,bG,b3,_,_,_,_⟩:=aj.o.bx;obtain⟨_,bq,aq,aT,b8,bR,bS,bT,ch⟩:=aj.o.rs;have bL:wc.cell? _=some _:=bH.o.c 0 xaa;have U:wc.cell? _=some _:=bH.o.c 1 xaa;have aV:wc.cell? _=some _:=bH.o.c 2 xaa;have aa:wc.cell? _=some _:=bH.o.c 3 xaa;have b1:wc.cell? _=some _:=bH.o.c 4 xaa;have ct:wc.cell? _=some _:=bH.o.c 5 xaa;have bX:wc.cell? _=some _:=bH.o.c 6 xaa;have cR:wc.cell? _=some _:=bH.o.c 7 xaa;have cx:=ri aj.o.cd.r2;have aw:g≠w.heap.size:=ix bv.o
  have bC:g≠w.heap.size+1:=ix bv.o
  have m:V _:=aj;have bp:(0:Int)<=j:=xaa;have br:(j:Int)<ss.length:=xaa;clear aj bH a9 aK O;have bi:=(eG m.o.cd.r2 (k:=g) rfl).1;have aD:=m.o.lo
  have aX:Chg (λb=>b=g) wc (Pd wc g (j*8) t):=by
   have e:∀(W:World) (q:Nat) (x:Value),Chg (λb=>b=g) W _:=λW q x=>fJ W g q x rfl;exact(((((((e _ _ _).trans (e _ _ _)).trans (e _ _ _)).trans (e _ _ _)).trans (e _ _ _)).trans (e _ _ _)).trans (e _ _ _)).trans (e _ _ _)
  have aO:V _:=nC m.o.rd aX (λb hb=>by omega);have d:V _:=m.o.bx.keepC aX (λc=>aw c.symm);have Q:V _:=m.o.rs.keepC aX (λc=>bC c.symm);have ar:V _:=m.o.nr;have aA:V _:=m.o.nw;have aF:V _:=m.o.ch.new aX λb _ hb=>co.o b (i4 hb);clear aX m;go_upto_region 31 with fail;clear bh aJ y2 y3 y4 b5 cA au bF bB bG b3 bq aq aT b8 bR bS bT ch bL U aV aa b1 ct bX cR cx;unfold Pd at Y aO d Q aF;generalize (((((((wc.setCell _ _).setCell _ _).setCell _ _).setCell _ _).setCell _ _).setCell _ _).setCell _ _).setCell _ _=am at Y aO d Q aF⊢;obtain⟨_,bF,bB,bG,b3,_,_,_,_⟩:=d.o;obtain⟨_,bq,aq,aT,b8,bR,bS,bT,ch⟩:=Q.o;go_wp2_with fail;obtain⟨bh,aJ,y2,y3⟩:=nT _ _ _ _ _ _ bq aq aT b8 (.slice a1 Z c1) (h0 g ss.length c2) (.slice bu m3 aI) (h1 (spP k v aL));have bW:=j9 am (w.heap.size+1) (.slice a1 Z c1) (h0 g ss.length c2) (.slice bu m3 aI) (h1 (spP k v aL));refine yaz (v:=iQ a1 Z c1 (some ⟨g,0,none⟩) ss.length c2 bu m3 aI (spP k v aL)) (by simp[results,results16,go_sem,bh,aJ,y2,y3]) rfl ⟨_,_,_,rfl,?_,aO.o.keep bW (.inl xaa),aF.o.new bW.chgS λi F h2=>by omega,aA.o⟩;rw[bI.o];exact Y.o.keepO (bW.chg1 rfl) λb hb c=>ix (ar.o b hb)):Zp:=h
open bI in
theorem Pe{w Z ae ab c1 c2 c3 a1 J a3 aL}(l:OCd w I (.slice a1 Z c1) (.slice J ae c2) (.slice a3 ab c3) ins ss a8)(K:RdF w P a n cap i bs)(hP:P<I)(a7:I<=w.heap.size)(ak:0<ss.length)(ag:ss.length<=2000)(ho:a8.length<=60)(aQ:-10<=aL/\aL<=70000)(ba:∀s∈ss,∀y∈fw s,-10<=y/\y<=70000)(z:S P)(bU:∀b,(Value.slice J ae c2).ownBlock=some b->S b)(r:∀b,(Value.slice a3 ab c3).ownBlock=some b->S b):
  Calls prog 16 #[iQ a1 Z c1 J ae c2 a3 ab c3 aL,hZ P] w λe B=>∃aa m3 aI,e=.returned (iQ a1 Z c1 J ae c2 aa m3 aI (spP (nv bs i%12) (nv bs (ni bs i)) aL))/\OCd B I (.slice a1 Z c1) (.slice J ae c2) (.slice aa m3 aI) ins (spL (nv bs i%12) (nv bs (ni bs i)) ss) (spO (nv bs i%12) (nv bs (ni bs i)) a8)/\RdF B P a n cap (ni bs (ni bs i)) bs/\Chg S w B/\∀b,(Value.slice aa m3 aI).ownBlock=some b->S b\/w.heap.size<=b:=by
 have bg:=gZ l.r2;have ad:=eA 0 0 w (iE a1 Z c1 J ae c2 a3 ab c3 aL);have an:=eA 0 0 (w.alloc (iE a1 Z c1 J ae c2 a3 ab c3 aL)) lC;have a5:(w.alloc (iE a1 Z c1 J ae c2 a3 ab c3 aL)).heap.size=w.heap.size+1:=by simp
 have a2:KB (w.alloc (iE a1 Z c1 J ae c2 a3 ab c3 aL)) w.heap.size (.slice a1 Z c1) (.slice J ae c2) (.slice a3 ab c3) (h1 aL):=by
  refine⟨?_,?_,?_,?_,?_,?_,?_,?_,?_⟩<;>simp
 have C:=lG (w.alloc (iE a1 Z c1 J ae c2 a3 ab c3 aL));exact qbv
end
section
theorem nvb{bs}(h:∀x∈bs,0<=x/\x<256)(i):nv bs i<256:=by
 unfold nv;by_cases c:i<bs.length<;>simp_all<;>grind
theorem Nk{us vs}(h:us.map sv=vs.map sv):Lk us vs:=by
 have e:sv=cv:=funext λv=>by unfold sv cv;rw[uO]
 unfold Lk;grind
end
section
attribute[local go_sem] eE eD eC
variable{w:World}{P n k i m1 af cap G m3 I ah C base ae bi j ab q aI g m c bD:Nat}{U aa a aV J:Option Addr}{x o a5 bj X bz aL:Int}{v:Vl}{ps qs outs bs ins:List Int}{vs:List Vl}{R R':Option Nat}{c0 ba c1 bc c2 u1 c3 c5 cd ce b2 bp bY cC co cu cq cg cl cn:Value}{ss:List Ste}{a8:List Spn}
def stA(vs:List Vl)(ps qs:List Int)(i q:Nat):Ste:=
 ⟨(vs.getD i h9).op,(vs.getD i h9).len,
  if 0<cnt (vs.getD i h9).op then (vs.getD (vs.getD i h9).a.toNat h9).len else 0,
  (if 3<q then qs else ps).getD i 0,
  if 0<cnt (vs.getD i h9).op then (if 0<q then qs else ps).getD (vs.getD i h9).a.toNat 0 else (vs.getD i h9).a,
  if 1<cnt (vs.getD i h9).op then (if 1<q then qs else ps).getD (vs.getD i h9).b.toNat 0 else (vs.getD i h9).b,
  if 2<cnt (vs.getD i h9).op then (if 2<q then qs else ps).getD (vs.getD i h9).c.toNat 0 else (vs.getD i h9).c,
  if (vs.getD i h9).op=1 then (vs.getD i h9).k else 0⟩
def mz(vs:List Vl)(ps qs:List Int)(k:Nat):List Ste:=(List.range vs.length).map λj=>oh vs (if j<k then qs else ps) j
theorem rj(vs ps qs k):(mz vs ps qs k).length=vs.length:=by simp[mz]
theorem Pf(h:j<vs.length):(mz vs ps qs k).getD j Ste.zero=oh vs (if j<k then qs else ps) j:=by
 simp_all[mz]
theorem QE(vs ps qs):mz vs ps qs 0=f9 vs ps vs.length:=by
 grind[mz,f9]
theorem QF(vs ps qs):mz vs ps qs vs.length=f9 vs qs vs.length:=by
 simp_all[mz,f9]
theorem Pg(h:i<vs.length):(mz vs ps qs i).set i (stA vs ps qs i 0)=mz vs ps qs i:=by
 refine List.ext_getElem? λj=>?_;rw[List.getElem?_set];split
 ·rename_i c;subst c;rw[h7 (by rw[rj];exact h)];unfold mz;rw[List.getElem?_map,List.getElem?_range h];show _=some (oh vs (if i<i then qs else ps) i);rw[h6 (Nat.lt_irrefl i)];rfl
 rfl
theorem Ph(h:i<vs.length):(mz vs ps qs i).set i (stA vs ps qs i 4)=mz vs ps qs (i+1):=by
 refine List.ext_getElem? λj=>?_;rw[List.getElem?_set];unfold mz;split
 ·rename_i c;subst c;rw[h7 (by simp_all),List.getElem?_map,List.getElem?_range h];show _=some (oh vs (if i<i+1 then qs else ps) i);rw[h7 (Nat.lt_succ_self i)];rfl
 grind
theorem Kept.newC{lo hi a b c S}(h:Kept lo hi a b)(k:Chg S b c)(a2:∀i,S i->a.heap.size<=i):Kept lo hi a c:=
 ⟨k.os.trans h.os,k.tape.trans h.tape,k.output.trans h.output,yao h.size k.size,λi hi ag=>(k.block i (yak hi h.size) (λc=>by grind)).trans (h.block i hi ag)⟩
structure Mx(W w:World)(P:Nat)(a:Option Addr)(n cap i:Nat)(bs:List Int)(G B C:Nat)(v1 v2 v3 u1:Value)(b2:Option Addr)(n2 d2:Nat)(b3:Option Addr)(n3 d3:Nat)(ins:List Int)(vs:List Vl)(outs:List Int)(ss:List Ste)(os:List Spn)(pk:Int):Prop where
 rd:RdF W P a n cap i bs
 cd:OCd W B v1 v2 v3 ins ss os
 bx:KB W C v1 v2 v3 (.int .i64 pk)
 rs:KB W w.heap.size (.slice none 0 0) (.slice none 0 0) (.slice none 0 0) (.int .i64 0)
 gb:RB W G u1 (.slice b2 n2 d2) (.slice b3 n3 d3)
 gv:VS W 0 B b2 n2 vs
 go:IS W 0 B b3 n3 outs
 lo:P<w.heap.size/\w.heap.size<G/\G<B/\B<=C
 nr:∀b,(v1.ownBlock=some b\/v2.ownBlock=some b\/v3.ownBlock=some b)->b<C
 kp:Kept P (P+1) w W
section
variable{W H w:World}{P n cap i G I C ae bi ab aI:Nat}{a aV aa:Option Addr}{bs:List Int}{ba bb bc u1:Value}{ins:List Int}{vs:List Vl}{outs:List Int}{ss:List Ste}{a8:List Spn}{aL:Int}
theorem Mx.part{Q u ag S}(f:Mx W w P a n cap i bs G I C ba bb bc u1 aV ae bi aa ab aI ins vs outs ss a8 aL)(k:Chg S W H)(a2:∀b,S b->I<=b)(aO:OCd H I ba bb bc ins Q u)(a7:KB H C ba bb bc (h1 ag)):Mx H w P a n cap i bs G I C ba bb bc u1 aV ae bi aa ab aI ins vs outs Q u ag:=
 have:=f.lo
 ⟨nC f.rd k λb hb=>by grind,aO,a7,f.rs.keepC k λc=>by grind,jk f.gb k λc=>by grind,f.gv.keepC k λg _ aK c=>by grind,f.go.keepC k λg _ aK c=>by grind,f.lo,f.nr,f.kp.newC k λb hb=>by grind⟩
theorem Mx.keep(f:Mx W w P a n cap i bs G I C ba bb bc u1 aV ae bi aa ab aI ins vs outs ss a8 aL)(k:Kept 0 0 W H):Mx H w P a n cap i bs G I C ba bb bc u1 aV ae bi aa ab aI ins vs outs ss a8 aL:=
 f.part (S:=λ_=>False) k.chg (λ_ h=>h.elim) (f.cd.keep k) (f.bx.keep k)
theorem Mx.setT{g m c j q x s s'}(f:Mx W w P a n cap i bs G I C ba (h0 g m c) bc u1 aV ae bi aa ab aI ins vs outs (ss.set j s) a8 aL)(hj:j<ss.length)(aA:q<8)(aN:s'.cells=s.cells.set q x)(O:s'.k=s.k):Mx (W.setCell ⟨g,j*8+q,none⟩ x) w P a n cap i bs G I C ba (h0 g m c) bc u1 aV ae bi aa ab aI ins vs outs (ss.set j s') a8 aL:=by
 have h2:=eG f.cd.r2 (k:=g) rfl;have h3:=f.nr g (.inr (.inl rfl));have e:=f.cd.setT (by rw[List.length_set];exact hj) aA (by rw[km hj];exact aN) (by rw[O];exact f.cd.kl s (List.mem_set hj s));rw[List.set_set]at e;exact f.part (fJ W g _ x rfl) (λb hb=>by omega) e (f.bx.keepC (fJ W g _ x rfl) xaa)
theorem Mx.setP{g m c j y s}(f:Mx W w P a n cap i bs G I C ba bb (h0 g m c) u1 aV ae bi aa ab aI ins vs outs ss a8 aL)(hj:j<a8.length)(aw:a8.getD j Spn.zero=s):Mx (W.setCell ⟨g,j*2,none⟩ (h1 y)) w P a n cap i bs G I C ba bb (h0 g m c) u1 aV ae bi aa ab aI ins vs outs ss (a8.set j ⟨y,s.len⟩) aL:=by
 have h2:=eG f.cd.r3 (k:=g) rfl;have h3:=f.nr g (.inr (.inr rfl));exact f.part (fJ W g _ _ rfl) (λb hb=>by omega) (f.cd.setP (q:=0) hj xaa (i4 aw)) (f.bx.keepC (fJ W g _ _ rfl) xaa)
theorem Mx.peak(f:Mx W w P a n cap i bs G I C ba bb bc u1 aV ae bi aa ab aI ins vs outs ss a8 aL)(y):Mx (W.setCell ⟨C,3,none⟩ (h1 y)) w P a n cap i bs G I C ba bb bc u1 aV ae bi aa ab aI ins vs outs ss a8 y:=
 f.part (fJ W C 3 _ rfl) (λb hb=>by subst hb;exact f.lo.2.2.2) (f.cd.keepO (fJ W C 3 _ rfl) (S:=λb=>b=C) λg aK c=>ix (f.nr g aK)) (f.bx.put3 _)
end
theorem Mx.dst{W s}(f:Mx W w P a n cap i bs G I C ba (h0 g m c) bc u1 aV ae bi aa ab aI ins vs outs ((mz vs ps qs q).set q s) a8 aL)(aA:q<vs.length)(hj:j<q):W.cell? ⟨g,j*8+3,none⟩=some (h1 (qs.getD j 0)):=by
 have e:((mz vs ps qs q).set q s).length=vs.length:=by rw[List.length_set,rj]
 have r:=f.cd.r2;rw[e]at r;obtain⟨aC,cap',a2,_,_,h⟩:=pC r e (k:=j) xaa;cases a2;have:=h.c3;rwa [yai,List.getElem?_set_ne xaa,<-yai,Pf xaa,h7 hj]at this
theorem Mx.at_{W s}(f:Mx W w P a n cap i bs G I C ba (h0 g m c) bc u1 aV ae bi aa ab aI ins vs outs (ss.set q s) a8 aL)(aA:q<ss.length):AtT W g (q*8) s:=by
 obtain⟨aC,cap',a2,_,_,h⟩:=pC f.cd.r2 rfl (by rw[List.length_set];exact aA);grind
theorem QG(aN:vs.getD i h9=v):(¬0<cnt v.op->stA vs ps qs i 1=stA vs ps qs i 0)/\∀m:Nat,0<cnt v.op->v.a=m->(stA vs ps qs i 1).cells=(stA vs ps qs i 0).cells.set 4 (h1 (qs.getD m 0)):=by
 grind[stA,Ste.cells]
theorem QH(aN:vs.getD i h9=v):(¬1<cnt v.op->stA vs ps qs i 2=stA vs ps qs i 1)/\∀m:Nat,1<cnt v.op->v.b=m->(stA vs ps qs i 2).cells=(stA vs ps qs i 1).cells.set 5 (h1 (qs.getD m 0)):=by
 grind[stA,Ste.cells]
theorem QI(aN:vs.getD i h9=v):(¬2<cnt v.op->stA vs ps qs i 3=stA vs ps qs i 2)/\∀m:Nat,2<cnt v.op->v.c=m->(stA vs ps qs i 3).cells=(stA vs ps qs i 2).cells.set 6 (h1 (qs.getD m 0)):=by
 grind[stA,Ste.cells]
theorem QJ(h:qs.getD i 0=x):(stA vs ps qs i 4).cells=(stA vs ps qs i 3).cells.set 3 (h1 x):=by
 subst h;simp[stA,Ste.cells]
theorem Mx.atP{W bb s}(f:Mx W w P a n cap i bs G I C ba bb bc u1 aV ae bi aa ab aI ins vs outs ss a8 aL)(aA:q<a8.length)(aw:a8.getD q Spn.zero=s):∃g cap,bc=h0 g a8.length cap/\W.cell? ⟨g,q*2,none⟩=some (h1 s.off):=by
 subst aw;obtain⟨a,cap,rfl⟩:=iL f.cd.r3;rcases f.cd.r3.2 with⟨af,c⟩|⟨g,b7,ad,e,U,aV,aa,b1,ct,bX⟩
 ·omega
 cases e;refine⟨g,_,rfl,?_⟩;have:=f.cd.r3.cells (g:=g) rfl (q*2+0) _ (by rw[vh _ _ _ xaa xaa];rfl);rwa [iM,Nat.zero_add]at this
def vi(vs:List Vl)(outs ps qs:List Int)(k:Nat):List Spn:=(List.range outs.length).map λj=>kK vs (if j<k then qs else ps) (outs.getD j 0)
theorem AS(vs outs ps qs k):(vi vs outs ps qs k).length=outs.length:=by simp[vi]
theorem AT{rs}{f:Nat->List Int}(h:∀j,j<outs.length->f j=rs):((List.range outs.length).map λj=>kK vs (f j) (outs.getD j 0))=outs.map (kK vs rs):=by
 refine List.ext_getElem? λj=>?_;grind
theorem Pi(h:k<outs.length):(vi vs outs ps qs k).getD k Spn.zero=kK vs ps (outs.getD k 0)/\(vi vs outs ps qs k).set k (kK vs qs (outs.getD k 0))=vi vs outs ps qs (k+1):=by
 refine⟨?_,List.ext_getElem? λj=>?_⟩
 ·simp_all[vi]
 rw[List.getElem?_set];unfold vi;grind
theorem IK(vs outs):plD false vs outs=fB vs outs vs.length/\pkD false vs outs=gW vs (fB vs outs vs.length) vs.length:=by simp[plD,pkD]
theorem L8(vs outs):(∀j,j<vs.length->(plD true vs outs).getD j 0=iU vs j)/\pkD true vs outs=iU vs vs.length:=by
 simp_all[pkD,plD]
def plS(vs:List Vl)(ps:List Int)(i q:Nat):Ste:=
 ⟨(vs.getD i h9).op,(vs.getD i h9).len,
  if 0<q/\0<cnt (vs.getD i h9).op then (vs.getD (vs.getD i h9).a.toNat h9).len else 0,
  ps.getD i 0,
  if 0<q/\0<cnt (vs.getD i h9).op then ps.getD (vs.getD i h9).a.toNat 0 else (vs.getD i h9).a,
  if 1<q/\1<cnt (vs.getD i h9).op then ps.getD (vs.getD i h9).b.toNat 0 else (vs.getD i h9).b,
  if 2<q/\2<cnt (vs.getD i h9).op then ps.getD (vs.getD i h9).c.toNat 0 else (vs.getD i h9).c,
  if 3<q/\(vs.getD i h9).op=1 then (vs.getD i h9).k else 0⟩
section
variable{vs:List Vl}{ps:List Int}{i:Nat}{v:Vl}
theorem QK{P}(aN:vs.getD i h9=v)(aQ:ps.getD i 0=P):plS vs ps i 0=⟨v.op,v.len,0,P,v.a,v.b,v.c,0⟩:=by
 unfold plS;rw[aN,aQ];simp
theorem QL(aN:vs.getD i h9=v):(¬0<cnt v.op->plS vs ps i 1=plS vs ps i 0)/\∀m:Nat,0<cnt v.op->v.a=m->plS vs ps i 1=⟨(plS vs ps i 0).op,(plS vs ps i 0).len,(vs.getD m h9).len,(plS vs ps i 0).dst,ps.getD m 0,(plS vs ps i 0).b,(plS vs ps i 0).c,(plS vs ps i 0).k⟩:=by
 exact xgi
theorem QM(aN:vs.getD i h9=v):(¬1<cnt v.op->plS vs ps i 2=plS vs ps i 1)/\∀m:Nat,1<cnt v.op->v.b=m->plS vs ps i 2=⟨(plS vs ps i 1).op,(plS vs ps i 1).len,(plS vs ps i 1).n,(plS vs ps i 1).dst,(plS vs ps i 1).a,ps.getD m 0,(plS vs ps i 1).c,(plS vs ps i 1).k⟩:=by
 exact xgi
theorem QN(aN:vs.getD i h9=v):(¬2<cnt v.op->plS vs ps i 3=plS vs ps i 2)/\∀m:Nat,2<cnt v.op->v.c=m->plS vs ps i 3=⟨(plS vs ps i 2).op,(plS vs ps i 2).len,(plS vs ps i 2).n,(plS vs ps i 2).dst,(plS vs ps i 2).a,(plS vs ps i 2).b,ps.getD m 0,(plS vs ps i 2).k⟩:=by
 exact xgi
theorem Nl(aN:vs.getD i h9=v):(¬v.op=1->plS vs ps i 4=plS vs ps i 3)/\(v.op=1->plS vs ps i 4=⟨(plS vs ps i 3).op,(plS vs ps i 3).len,(plS vs ps i 3).n,(plS vs ps i 3).dst,(plS vs ps i 3).a,(plS vs ps i 3).b,(plS vs ps i 3).c,v.k⟩):=by
 unfold plS;rw[aN];exact⟨λc=>by simp[c],λc=>by simp[c]⟩
end
theorem QO(vs ps i):plS vs ps i 4=oh vs ps i:=by simp[plS,oh]
theorem opm(h:0<=x/\x<q):∃m:Nat,x=m/\m<q:=⟨x.toNat,by omega,by omega⟩
theorem PlP{P:Prop}(h:P:=by
 obtain⟨m,em,ao⟩:=ho c;have bH:=HPC.o _ (HR0.o.kept yad) m xaa;have R:V _:=hput m;rw[<-hst.2 m c em]at R;simp only[Nat.zero_add]at tq;simp only[em]at y2 y3 y4;have t:=Int.ofNat_lt.2 c;have gT:(m:Int)<ae:=xaa;have bL:(0:Int)<=m:=xaa;generalize (fB vs outs ae).getD m 0=A at bH R;clear c em hops HR0 HPC HGC ho hst hput;go_wp2_with fail;go_meet;exact R):P:=h
theorem PlN{P:Prop}(h:P:=by
 have e:=hst.1 c;have t:=mt Int.ofNat_lt.1 c;clear c;go_wp2_with fail;go_meet;rw[e];exact HR0):P:=h
theorem Pj(w U aV aa Z c1 ae c2 ab c3 ins vs outs)(f:GS w U Z aV ae aa ab ins vs outs)(Q:okG ins vs outs=true):
  Calls prog 67 #[eX U Z c1 aV ae c2 aa ab c3] w λe B=>∃a1 aM J bi a3 aI,e=.returned (iQ a1 Z aM J ae bi a3 ab aI (gW vs (fB vs outs ae) ae))/\OCd B w.heap.size (.slice a1 Z aM) (.slice J ae bi) (.slice a3 ab aI) ins (f9 vs (fB vs outs ae) ae) (outs.map (kK vs (fB vs outs ae)))/\Kept 0 0 w B:=by
 obtain⟨b1,hii,hz0,hz1,hz2⟩:=info_parts Cv;obtain⟨bE,al,cA,ct,bo⟩:=info_parts xH;obtain⟨⟨ci,cz,cD⟩,_,aN,ho,cR⟩:=jZ Q;have cr:vs.length=ae:=f.v.len;have dd:outs.length=ab:=f.o.len;have dc:ins.length=Z:=f.i.len;have bk:Z<=20:=xaa;have bv:ae<=2000:=xaa;have cp:ab<=50:=xaa;have bX:V (∀j,j<ae->okV ins vs j=true):=λj hj=>aN j xaa;have HO:V (∀o∈outs,0<=o/\o<(ae:Int)):=λo h=>ix (ho o h)
 have au:V (iU vs ae<=50000):=by
  show _<=_;rw[kY vs ae xaa,yap xaa];exact cR
 have cS:V _:=qX (outs:=outs) (n:=ae) (λk O=>(gi (bX.o k O)).1) au.o ae yad;have cN:V (∀j,j<=ae->iU vs j<=50000):=λj hj=>Int.le_trans (ie (n:=ae) (λk O=>(gi (bX.o k O)).1) hj yad) au.o;have c7:V (∀v∈vs,v.k<18446744073709551616):=f.v.lt;have l:V (vs.length=ae/\outs.length=ab/\ins.length=Z):=⟨cr,dd,dc⟩
 have ad:=eA 0 0 w (fx U Z c1 aV ae c2 aa ab c3);have a7:=hH w (.slice U Z c1) (.slice aV ae c2) (.slice aa ab c3);have an:=eA 0 0 (w.alloc (fx U Z c1 aV ae c2 aa ab c3)) lC;have T:V _:=a7.keep an;have aD:V _:=(f.keep ad).keep an;have HK:V _:=ad.trans an;have bf:V _:=Hz _ U aV aa Z c1 ae c2 ab c3 ins vs outs ((f.keep ad).keep an) Q;clear f Q ci cz cD aN ho cr dd dc cR ad an au;obtain⟨_,aP,ay,aB⟩:=T.o;go_enter func67,ntmps67;go_wp2_with fail;refine yaj bf.o ?_;rintro e am ⟨bH,dv,rfl,d4,av⟩;have bZ:V _:=d4;have bQ:V _:=HK.o.trans av;have y:V _:=T.o.keep av;have cf:V _:=aD.o.keep av;have d0:V _:=oG am _ _ U Z c1 ins xaa (aD.o.keep av).i;have d1:V _:=(lG (w.alloc (fx U Z c1 aV ae c2 aa ab c3))).keep av;have d5:V ((w.alloc (fx U Z c1 aV ae c2 aa ab c3)).heap.size=w.heap.size+1):=by show _=_;simp
 rw[d5.o]at d1;have aH:V (w.heap.size+1<am.heap.size):=d1.o.sz;clear bf T aD HK d4 av aP ay aB a7 d5;obtain⟨_,aP,ay,aB⟩:=y.o;go_wp2_with fail;refine yaj d0.o ?_;rintro e aU ⟨ak,id,rfl,(aS:V _),aZ⟩;have eq:V _:=oF aS.o l.o.2.2;have aO:V _:=bQ.o.trans aZ;have ca:V _:=y.o.keep aZ;have cG:V _:=cf.o.keep aZ;have d:V _:=IS.mono (bZ.o.keep aZ yaa) yad aZ.size;have aG:V _:=d1.o.keep aZ;clear d0 y cf bQ bZ d1 aZ aP ay aB;go_wp2_with fail;have ax:V (w.heap.size+1<aU.heap.size):=aG.o.sz;have d2:V _:=IJ aU (.slice ak Z id);go_loopw [5] (λx W=>∃(k:Nat) (u:Value),k<=ae/\x=h1 k/\V (LP W aU aU.heap.size (aU.heap.size+1) (.slice ak Z id) u (.slice none 0 0) k 0 (gW vs (fB vs outs ae) k) (f9 vs (fB vs outs ae) k) [])) (λx _=>ae-(intOf x).toNat)
 case atStart=>exact⟨0,_,yae,rfl,d2⟩
 case round=>
  obtain⟨i,u,hi,rfl,hP⟩:=hrel;clear d2;have F:V (Kept 0 0 aU wr):=Chg.kept (Kept.refl 0 0 aU) hP.o.ch (λb hb=>by rcases hb with h|h<;>omega);obtain⟨_,aP,ay,aB⟩:=ca.o.keep F.o;by_cases hlt:i<ae
  ·obtain⟨g,off,rfl,aK,aF,_,bh,aJ,y2,y3,y4,b5⟩:=cG.o.v.keep F.o yaa |>.at_idx hlt
   obtain⟨H,r,aL,af,bg,_,ea,b7⟩:=(d.o.keep F.o yaa).at_idx (o:=i) xaa xaa;subst af
   have ej:H<aU.heap.size:=by
    rcases d.o.at_ with z|⟨aC,bm,a2,_,_,bu,_⟩
    ·omega
    cases a2;exact bu
   obtain rfl:i=aL:=xaa;rw[Int.toNat_natCast]at b7;have bP:V _:=bX.o i hlt;have cw:V _:=Aw vs (fB vs outs ae) i;generalize cJ:vs.getD i h9=v at bh aJ y2 y3 y4 b5;have S:V _:=mf wr v;have bW:=eA 0 0 wr (fW v.op v.len v.a v.b v.c v.k);have cV:V _:=hP.o.keep bW;have a0:V _:=F.o.trans bW;have di:(wr.alloc (fW v.op v.len v.a v.b v.c v.k)).heap.size=wr.heap.size+1:=by simp
   have cK:(wr.alloc (fW v.op v.len v.a v.b v.c v.k)).cell? ⟨H,r+i,none⟩=some (h1 ((fB vs outs ae).getD i 0)):=by rw[bW.cell (p:=⟨H,r+i,none⟩) ea xaa];exact b7
   go_wp2_with fail;have ef:V (aU.heap.size<=wr.heap.size):=F.o.size;have cX:V (H<aU.heap.size):=ej;have N:V (aU.heap.size+1<=wr.heap.size):=hP.o.bz;have ee:V (∀g,u.ownBlock=some g->g<wr.heap.size):=λg h=>(eG hP.o.pu h).2;clear bW bh aJ y2 y3 y4 b5 aP ay aB b7 hP F;generalize wr.alloc (fW v.op v.len v.a v.b v.c v.k)=bA at S cV a0 di cK⊢;obtain⟨bh,aJ,y2,y3,y4,b5⟩:=S.o;simp only[Nat.zero_add]at aJ y2 y3 y4 b5;generalize aR:(fB vs outs ae).getD i 0=P at cK;have d6:V (∀g,u.ownBlock=some g->g<wr.heap.size):=ee.o;go_cut [7] (λp bb=>p=hZ (wr.heap.size+1)/\V (RD bb aU aU.heap.size (aU.heap.size+1) wr.heap.size (wr.heap.size+1) (.slice ak Z id) u i (gW vs (fB vs outs ae) i) (f9 vs (fB vs outs ae) i) v ⟨v.op,v.len,0,P,v.a,v.b,v.c,0⟩))
   case first=>
    have R:V _:=RD.start cV.o S.o di N.o yaf d6.o ⟨v.op,v.len,0,P,v.a,v.b,v.c,0⟩;go_region
    all_goals
     go_wp2_with fail
     go_meet
     exact⟨rfl,R.o.keep (eF _)⟩
   case rest=>
    obtain⟨rfl,K⟩:=hcut;clear S cV a0 cK bh aJ y2 y3 y4 b5;have b4:=nu bP.o;have hops:=sV bP.o;rw[cJ]at b4 hops;have aQ:V _:=zD v.op b4.1 b4.2;have e9:w.heap.size+1<aU.heap.size:=ax.o;have ex:aU.heap.size<=wr.heap.size:=ef.o
    have HPC:V (∀W,Kept 0 0 aU W->∀m:Nat,m<ae->W.cell? ⟨H,r+m,none⟩=some (h1 ((fB vs outs ae).getD m 0))):=λW k m ao=>by
     obtain⟨en,ep,ag,af,bg,_,_,c⟩:=(d.o.keep k yaa).at_idx (o:=m) xaa xaa
     cases af
     obtain rfl:m=ag:=xaa
     rw[Int.toNat_natCast]at c
     exact c
    have HGC:V (∀W,Kept 0 0 aU W->∀m:Nat,m<ae->W.cell? ⟨g,off+m*6+1,none⟩=some (h1 (vs.getD m h9).len)):=λW k m ao=>by
     obtain⟨aC,cx,af,_,_,_,c⟩:=(cG.o.v.keep k yaa).at_idx ao
     cases af
     exact c.c1
    have ew:H<aU.heap.size:=cX.o;have et:g<aU.heap.size:=aF;have cH:V (vs.getD i h9=v):=cJ;rw[<-QK cJ aR]at K;have HR0:V _:=K;clear K cJ;obtain⟨_,aP,ay,aB⟩:=ca.o.keep (HR0.o.kept yad);obtain⟨bh,aJ,y2,y3,y4,b5⟩:=HR0.o.va;simp only[Nat.zero_add]at aJ y2 y3 y4 b5;go_upto_if 48 with (first|(go_at_call 19;refine yaj (aQ.o _) ?_;rintro e bn ⟨rfl,rfl⟩)|fail)
    go_cut [] from 47 to 62 (λbb=>V (RD bb aU aU.heap.size (aU.heap.size+1) wr.heap.size (wr.heap.size+1) (.slice ak Z id) u i (gW vs (fB vs outs ae) i) (f9 vs (fB vs outs ae) i) v (plS vs (fB vs outs ae) i 1)))
    case first=>
     have hst:=QL (ps:=fB vs outs ae) cH.o;by_cases c:0<cnt v.op
     ·obtain⟨m,em,ao⟩:=opm (hops v.a (qF c));have bH:=HPC.o _ (HR0.o.kept yad) m xaa;have d7:=HGC.o _ (HR0.o.kept yad) m xaa;have cM:=RD.set HR0.o (AtT.setC4 HR0.o.ta ((fB vs outs ae).getD m 0));have R:V _:=RD.set cM (AtT.put2 cM.ta (vs.getD m h9).len);rw[<-hst.2 m c em]at R;have bd:=HR0.o.tf 2;have a9:=HR0.o.ta.c2;clear cM;have bC:=HR0.o.tf 4;have cj:=HR0.o.ta.c4;simp only[Nat.zero_add]at cj a9;rw[em]at y2;have t:=Int.ofNat_lt.2 c;have gT:(m:Int)<ae:=xaa;have bL:(0:Int)<=m:=xaa;generalize (fB vs outs ae).getD m 0=A at bH R;generalize (vs.getD m h9).len=az at d7 R;clear c em hops HR0 HPC HGC hst;go_wp2_with fail;go_meet;exact R
     exact PlN
    case rest=>
    replace HR0:V _:=hcut;clear hcut aP ay aB bh aJ y2 y3 y4 b5;obtain⟨_,aP,ay,aB⟩:=ca.o.keep (HR0.o.kept yad);obtain⟨bh,aJ,y2,y3,y4,b5⟩:=HR0.o.va;simp only[Nat.zero_add]at aJ y2 y3 y4 b5;go_upto_if 64 with fail
    go_cut [] from 63 to 70 (λbb=>V (RD bb aU aU.heap.size (aU.heap.size+1) wr.heap.size (wr.heap.size+1) (.slice ak Z id) u i (gW vs (fB vs outs ae) i) (f9 vs (fB vs outs ae) i) v (plS vs (fB vs outs ae) i 2)))
    case first=>
     have ho:=λc=>opm (hops v.b (sW c));have hst:=QM (ps:=fB vs outs ae) cH.o;have hput:=λm=>RD.set HR0.o (AtT.put5 HR0.o.ta ((fB vs outs ae).getD m 0));have g4:=HR0.o.tf 5;have tq:=HR0.o.ta.c5;by_cases c:1<cnt v.op
     ·exact PlP
     exact PlN
    case rest=>
    replace HR0:V _:=hcut;clear hcut aP ay aB bh aJ y2 y3 y4 b5;obtain⟨_,aP,ay,aB⟩:=ca.o.keep (HR0.o.kept yad);obtain⟨bh,aJ,y2,y3,y4,b5⟩:=HR0.o.va;simp only[Nat.zero_add]at aJ y2 y3 y4 b5;go_upto_if 72 with fail
    go_cut [] from 71 to 78 (λbb=>V (RD bb aU aU.heap.size (aU.heap.size+1) wr.heap.size (wr.heap.size+1) (.slice ak Z id) u i (gW vs (fB vs outs ae) i) (f9 vs (fB vs outs ae) i) v (plS vs (fB vs outs ae) i 3)))
    case first=>
     have ho:=λc=>opm (hops v.c (sX c));have hst:=QN (ps:=fB vs outs ae) cH.o;have hput:=λm=>RD.set HR0.o (AtT.put6 HR0.o.ta ((fB vs outs ae).getD m 0));have g4:=HR0.o.tf 6;have tq:=HR0.o.ta.c6;by_cases c:2<cnt v.op
     ·exact PlP
     exact PlN
    case rest=>
    replace HR0:V _:=hcut;clear hcut aP ay aB bh aJ y2 y3 y4 b5;obtain⟨_,aP,ay,aB⟩:=ca.o.keep (HR0.o.kept yad);obtain⟨bh,aJ,y2,y3,y4,b5⟩:=HR0.o.va;simp only[Nat.zero_add]at aJ y2 y3 y4 b5;go_upto_if 81 with fail
    go_cut [] from 79 to 84 (λbb=>V (RD bb aU aU.heap.size (aU.heap.size+1) wr.heap.size (wr.heap.size+1) (.slice ak Z id) u i (gW vs (fB vs outs ae) i) (f9 vs (fB vs outs ae) i) v (plS vs (fB vs outs ae) i 4)))
    case first=>
     by_cases c:v.op=1
     ·have R:V _:=RD.set HR0.o (AtT.put7 HR0.o.ta v.k);rw[<-(Nl cH.o).2 c]at R;have bx:=HR0.o.tf 7;have da:=HR0.o.ta.c7;simp only[Nat.zero_add]at da;have t:(v.op==1)=true:=by rw[beq_iff_eq];exact c
      clear c HR0;go_wp2_with fail;go_meet;exact R
     have e:=(Nl (ps:=fB vs outs ae) cH.o).1 c;have t:(v.op==1)=false:=by rw[beq_eq_false_iff_ne];exact c
     clear c;go_wp2_with fail;go_meet;rw[e];exact HR0
    case rest=>
    have R:V _:=hcut;clear hcut HR0 aP ay aB bh aJ y2 y3 y4 b5 b4 hops HPC HGC;rw[QO]at R;have ai:V _:=cw.o;generalize oh vs (fB vs outs ae) i=st at R ai;have bM:=cS.o i hlt;have b6:=cN.o (i+1) xaa;rw[aR,cH.o]at bM
    have c9:V (gW vs (fB vs outs ae) (i+1)=if gW vs (fB vs outs ae) i<P+v.len then P+v.len else gW vs (fB vs outs ae) i):=by
     show _=_;rw[gW,aR,cH.o]
    generalize gW vs (fB vs outs ae) i=aL at R c9;obtain⟨_,bF,bB,bG,b3,_,f1,_,f3⟩:=R.o.lp.bx;obtain⟨aY,ar,aW,bJ,cB,cy,cI,cP⟩:=R.o.ta;simp only[Nat.zero_add]at ar aW bJ cB cy cI cP;have b0:=R.o.lp.bz;have er:=R.o.lt;go_wp2_with (first|(at_builtin;refine wpList_append_lies _ rfl _ _ 24 rfl (aU.heap.size+1) 47 b1 Ste.zero.agg 8 64 underlying24 hii hz0 hz1 hz2 rfl xab _ _ (iS (f9 vs (fB vs outs ae) i)) rfl (R.o.lp.pu.alloc _) ⟨wc.heap.size,0,none⟩ 1 1 st.cells rfl rfl (Nj wc st 0) (QC st) xab (by unfold maxLen;omega) xaa yag _ rfl ?_;intro g9 cap9 bn bU bK bO bV;obtain⟨_,cF,m1,bl,m3,_,ek,_,el⟩:=LP.mid (z:=0) R.o.lp yaf bK)|fail);have be:u.ownBlock=some g9\/g9=wc.heap.size+1:=bO.imp (λh=>h) (λe=>by rw[e];simp);have R2:V _:=LP.putU (z:=0) (s:=st) R.o.lp yaf bU bK be;rw[<-ai.o]at R2;have eb:bn.cell? ⟨wr.heap.size,1,none⟩=some (h1 v.len):=kR (m:=0) bK (ix R.o.vs) (λc=>ix (d6.o _ c)) (by have:=R.o.va.c1;rw[Nat.zero_add]at this;exact this)
    have ec:(bn.setCell ⟨aU.heap.size,1,none⟩ (h0 g9 (i+1) cap9)).cell? ⟨wr.heap.size,1,none⟩=some (h1 v.len):=by
     rw[eV _ _ _ _ _ _ (.inl (ix R.o.bv))];exact eb
    have HQ:V (Kept 0 0 aU (bn.setCell ⟨aU.heap.size,1,none⟩ (h0 g9 (i+1) cap9))):=Chg.kept (Kept.refl 0 0 aU) R2.o.ch (λb hb=>by rcases hb with h|h<;>omega);have bI:V (wr.heap.size<(bn.setCell ⟨aU.heap.size,1,none⟩ (h0 g9 (i+1) cap9)).heap.size):=World.block_lt_of_cell? _ _ ec;clear bU bK bO be bV cF m1 bl m3 ek el bF bB bG b3 f1 f3 aY ar aW bJ cB cy cI cP eb R ai;generalize bn.setCell ⟨aU.heap.size,1,none⟩ (h0 g9 (i+1) cap9)=ck at R2 ec HQ bI⊢;obtain⟨_,bF,bB,bG,b3,_,_,_,f3⟩:=R2.o.bx;obtain⟨en,ep,ag,af,bg,_,ev,aA⟩:=(d.o.keep HQ.o yaa).at_idx (o:=i) xaa xaa;cases af;obtain rfl:i=ag:=xaa;rw[Int.toNat_natCast,aR]at aA;have br:=gi bP.o;rw[cH.o]at br;by_cases fu:aL<P+v.len
    ·rw[h7 fu]at c9;have R3:V _:=LP.putP R2.o yaf (P+v.len);go_region
     all_goals
      go_wp2_with fail
      go_region
      all_goals
       go_wp2
       go_roundw;exact⟨i+1,_,by omega,by go_num,by rw[c9.o];exact R3.o.keep ((eF _).trans (eF _))⟩;simp[intOf];omega
    rw[h6 fu]at c9;rw[<-c9.o]at R2;go_region
    all_goals
     go_wp2
     go_roundw;exact⟨i+1,_,by omega,by go_num,R2.o.keep (eF _)⟩;simp[intOf];omega
  obtain rfl:i=ae:=xaa;go_wp2_with fail;go_loopw [9] (λx W=>∃(k:Nat) (v':Value),k<=ab/\x=h1 k/\V (LP W aU aU.heap.size (aU.heap.size+1) (.slice ak Z id) u v' i k (gW vs (fB vs outs i) i) (f9 vs (fB vs outs i) i) ((outs.take k).map (kK vs (fB vs outs i))))) (λx _=>ab-(intOf x).toNat)
  case atStart=>exact⟨0,_,yae,rfl,by rw[List.take_zero];exact hP⟩
  case round=>
   obtain⟨k,v',O,rfl,Y⟩:=hrel;clear hP F aP ay aB;have F:V (Kept 0 0 aU wr):=Chg.kept (Kept.refl 0 0 aU) Y.o.ch (λb hb=>by rcases hb with h|h<;>omega);obtain⟨_,aP,ay,aB⟩:=ca.o.keep F.o;obtain⟨_,bF,bB,bG,b3,_,_,f2,_⟩:=Y.o.bx;by_cases cc:k<ab
   ·have d9:=pr (xs:=outs) (q:=k) (i1 l.o.2.1 cc);have eg:=HO.o _ d9;obtain⟨m,em,ao⟩:∃m:Nat,outs.getD k 0=m/\m<i:=⟨(outs.getD k 0).toNat,by omega,by omega⟩
    obtain⟨ez,ds,aj,rfl,ap,_,eu,cU⟩:=(cG.o.o.keep F.o yaa).at_idx (o:=k) xaa xaa;obtain rfl:k=aj:=xaa;rw[Int.toNat_natCast,em]at cU;obtain⟨H,r,aL,rfl,bg,_,ea,b7⟩:=(d.o.keep F.o yaa).at_idx (o:=m) xaa xaa;obtain rfl:m=aL:=xaa;rw[Int.toNat_natCast]at b7;obtain⟨g,off,rfl,aK,_,_,bw⟩:=(cG.o.v.keep F.o yaa).at_idx ao;have a6:=bw.c1
    have HX:V ((outs.take (k+1)).map (kK vs (fB vs outs i))=(outs.take k).map (kK vs (fB vs outs i))++[⟨(fB vs outs i).getD m 0,(vs.getD m h9).len⟩]):=by
     show _=_;rw[yau (i1 l.o.2.1 cc),List.map_append]
     have e:outs[k]'(i1 l.o.2.1 cc)=(m:Int):=by
      rw[<-em,yai,yam (i1 l.o.2.1 cc)];rfl
     rw[List.map_singleton,e];rfl
    generalize (fB vs outs i).getD m 0=A at b7 HX;generalize (vs.getD m h9).len=az at a6 HX;have cO:=Y.o.bz;obtain⟨bN,cQ,rfl⟩:=iL Y.o.pv;clear d9 eg em bw;go_wp2_with fail;go_region_law ((refine step_append_lies _ rfl (.tmp 122) (.tmp 134) 25 rfl (aU.heap.size+1) 53 bE Spn.zero.agg 2 16 underlying25 al cA ct bo rfl xab _ _ (iB ((outs.take k).map (kK vs (fB vs outs i)))) (by simp[Act.eval]) (lU Y.o.pv 1 _) ⟨wr.heap.size,0,none⟩ 1 1 (Spn.cells ⟨A,az⟩) (by simp[Act.eval]) rfl (II wr ⟨A,az⟩ 1) (Pb _) xab (by unfold maxLen;omega) xaa yag _ rfl ?_;intro g9 cap9 bn bU bK bO bV;obtain⟨_,aY,ar,aW,bJ,_,_,eB,_⟩:=LP.midV Y.o yaf bK))
    all_goals
     have be:(Value.slice bN k cQ).ownBlock=some g9\/g9=wr.heap.size+1:=bO.imp (λh=>h) (λe=>by rw[e];show(wr.alloc _).heap.size=_;simp)
     have R:V _:=LP.putV (s:=⟨A,az⟩) Y.o yaf bU bK be
     rw[<-HX.o]at R
     clear bU bK bO be bV
     go_wp2
     go_roundw;exact⟨k+1,_,by omega,by go_num,R⟩;simp[intOf];omega
   obtain rfl:k=ab:=xaa;obtain⟨J,bi,rfl⟩:=iL Y.o.pu;obtain⟨a3,aI,rfl⟩:=iL Y.o.pv;have K:=aG.o.keep F.o;obtain⟨_,bq,aq,aT,b8,bR,bS,bT,ch⟩:=K;have b9:V (Kept 0 0 w wr):=aO.o.trans F.o;have d3:V _:=eN aS.o F.o;have cT:V _:=Y.o.pu
   have c6:V (wr.ownsRow (aU.heap.size+1) 53 2 (.slice a3 k aI) k (iB (outs.map (kK vs (fB vs outs i))))):=by
    have:=Y.o.pv;rw[yap (by rw[l.o.2.1];exact yad)]at this;exact this
   have cW:V _:=Y.o.ne;have e9:w.heap.size+1<aU.heap.size:=ax.o;have ey:w.heap.size+1<am.heap.size:=aH.o;clear Y;obtain⟨dT,dg⟩:∃z,z=gW vs (fB vs outs i) i:=⟨_,rfl⟩
   rw[<-dg]at b3;have ed:V _:=dg;clear dg;go_wp2_with fail;obtain⟨bh,aJ,y2,y3⟩:=nT wr (w.heap.size+1) _ _ _ _ bq aq aT b8 (.slice ak Z id) (.slice J i bi) (.slice a3 k aI) (h1 dT);have aX:=j9 wr (w.heap.size+1) (.slice ak Z id) (.slice J i bi) (.slice a3 k aI) (h1 dT);refine yaz (v:=iQ ak Z id J i bi a3 k aI dT) (by simp[results,results67,go_sem,bh,aJ,y2,y3]) rfl ⟨ak,id,J,bi,a3,aI,by rw[ed.o],⟨?_,?_,?_,λg h c=>?_,λg h c=>?_,cW.o,?_⟩,b9.o.new aX xaa⟩
   ·rw[l.o.2.2];exact gy (fD d3.o aX (λb hb=>ix (eG d3.o hb))) xaa
   ·rw[kZ];exact gy (fD cT.o aX (λb hb=>ix (eG cT.o hb))) xaa
   ·rw[List.length_map,l.o.2.1];exact gy (fD c6.o aX (λb hb=>ix (eG c6.o hb))) xaa
   ·have:=eG aS.o h;have:=eG cT.o c;omega
   ·have:=eG aS.o h;have:=eG c6.o c;omega
   intro s aw;unfold f9 at aw;obtain⟨q,_,rfl⟩:=List.mem_map.1 aw;unfold oh;dsimp only;split
   ·exact JV c7.o q
   decide
theorem IL{W}(Y:V (MS w W U m1 af aa m3 ah vs ⟨o,a5,bj,X,bz,bD⟩ base R R' J cap))(bM:vs.length<=900000):PfC 19 W (MpR w U m1 af aa m3 ah vs ⟨o,a5,bj,X,bz,bD⟩ base R (eJ 3 a5 bj X 0)) c0 c1 c2 c3 (hZ w.heap.size) c5 cd ce b2 bp bY (hZ (w.heap.size+1+1)) (h1 a5) cC co cu cq cg cl cn bp bY:=by
 unfold PfC;exact xbo
theorem yI{W bU}(Y:V (MS w W U m1 af aa m3 ah vs ⟨o,a5,bj,X,bz,bD⟩ base R R' J cap))(bM:vs.length<=900000):PfC 24 W (MpR w U m1 af aa m3 ah vs ⟨o,a5,bj,X,bz,bD⟩ base R (eJ 1 a5 0 0 0)) c0 c1 c2 c3 (hZ w.heap.size) c5 cd ce b2 bp bY bU (h1 a5) cC co cu cq cg cl cn bp bY:=by
 unfold PfC;intros;rename_i HK;have bf:V (∀ax,Kept 0 0 W ax->_):=λax k=>MS.call Y.o k (eJ 1 a5 0 0 0) xaa;have aY:=Y.o.g.c0;have ar:=Y.o.g.c1;have aW:=Y.o.g.c2;conv=>arg 2;whnf
 go_region_with (first
  |(go_at_call 78;refine yaj (bf.o _ ((eF W).trans an)) ?_;rintro e am ⟨aC,cap',rfl,⟨u0,bq⟩,⟨u1,aq⟩,⟨u2,aT⟩,ak,_,aG⟩;have bR:=ak 0;have bS:=ak 1;have bT:=ak 2;clear ak)
  |(go_at_call 94;refine yaj (pt _ _) ?_;rintro e aH ⟨rfl,an⟩;have bH:=(MS.keep Y.o ((eF W).trans an)).g.c0;have bk:=(MS.keep Y.o ((eF W).trans an)).g.c1;have p2:=(MS.keep Y.o ((eF W).trans an)).g.c2))
 all_goals exact HK _ ⟨_,_,_,⟨rfl,by simp⟩,by simp,aG⟩
variable{w:World}{U aa:Option Addr}{m1 af cap m3 ah base a0 i j aj:Nat}{vs:List Vl}{a5 bj X bz S d br:Int}{bD:Nat}
theorem A.qaj(h:Zp:=by
 refine fh (IL Y xaa ?_);exact no_implicit_lambda% qdj):Zp:=h
theorem A.qdk(h:Zp:=by
 exact no_implicit_lambda% qfq):Zp:=h
theorem A.qfr(h:Zp:=by
 refine fh (Gz Y xaa ?_);exact no_implicit_lambda% xbj):Zp:=h
open A in
theorem L9(ad:MvH w cap base a0 i vs ⟨7,a5,bj,X,bz,bD⟩):PtC w U aa m1 af cap m3 ah base a0 i vs 0 d ([eJ 3 a5 bj X 0,eJ 1 a5 0 0 0,eJ 8 a5 ((vs.length:Nat):Int) d (((vs.length:Nat):Int)+1)],(((vs.length:Nat):Int)+2)) true:=by
 exact qai
variable{w:World}{U aa:Option Addr}{m1 af cap m3 ah base a0 i j aj:Nat}{vs:List Vl}{a5 bj X bz S d br:Int}{bD:Nat}
theorem B.qaj(h:Zp:=by
 refine fh (IL Y xaa ?_);exact no_implicit_lambda% qdj):Zp:=h
theorem B.qdk(h:Zp:=by
 exact no_implicit_lambda% qfq):Zp:=h
theorem B.qfr(h:Zp:=by
 refine fh (GA Y xaa ?_);exact no_implicit_lambda% xbj):Zp:=h
open B in
theorem Ma(ad:MvH w cap base a0 i vs ⟨7,a5,bj,X,bz,bD⟩):PtC w U aa m1 af cap m3 ah base a0 i vs 1 d ([eJ 3 a5 bj X 0,eJ 1 a5 0 0 0,eJ 8 a5 ((vs.length:Nat):Int) (((vs.length:Nat):Int)+1) d],(((vs.length:Nat):Int)+2)) true:=by
 exact qai
variable{w:World}{U aa:Option Addr}{m1 af cap m3 ah base a0 i j aj:Nat}{vs:List Vl}{a5 bj X bz S d br:Int}{bD:Nat}
theorem C.qaj(h:Zp:=by
 refine fh (yI Y xaa ?_);exact no_implicit_lambda% qdj):Zp:=h
theorem C.qdk(h:Zp:=by
 refine fh (Gz Y xaa ?_);exact no_implicit_lambda% xcq):Zp:=h
open C in
theorem Mc(ad:MvH w cap base a0 i vs ⟨8,a5,bj,X,bz,bD⟩):PtC w U aa m1 af cap m3 ah base a0 i vs 1 d ([eJ 1 a5 0 0 0,eJ 8 a5 bj d ((vs.length:Nat):Int)],(((vs.length:Nat):Int)+1)) true:=by
 exact qai
variable{w:World}{U aa:Option Addr}{m1 af cap m3 ah base a0 i j aj:Nat}{vs:List Vl}{a5 bj X bz S d br:Int}{bD:Nat}
theorem D.qaj(h:Zp:=by
 refine fh (yI Y xaa ?_);exact no_implicit_lambda% qdj):Zp:=h
theorem D.qdk(h:Zp:=by
 refine fh (GA Y xaa ?_);exact no_implicit_lambda% xcq):Zp:=h
open D in
theorem Md(ad:MvH w cap base a0 i vs ⟨8,a5,bj,X,bz,bD⟩):PtC w U aa m1 af cap m3 ah base a0 i vs 2 d ([eJ 1 a5 0 0 0,eJ 8 a5 bj ((vs.length:Nat):Int) d],(((vs.length:Nat):Int)+1)) true:=by
 exact qai
