import Derived.Test.YtiacbhjphaldlaaGreatDoorP03
namespace Go.Proofs.Z
open Tryz
set_option maxRecDepth 1000000
set_option maxHeartbeats 0
open Go.RowKit Flt
variable{l}
attribute[local go_sem] dI dG dF
variable{w D:World}{lo g hi C T n:Nat}{G:List Int}{a:Option Addr}{vs:List Vl}
def IR(w:World)(g:Nat)(xs:List Int):Prop:=w.heap[g]? =some (.cells (xs.map (Value.int .i64)).toArray 3 (0,0))
theorem IR.lt(h:IR w g G):g<w.heap.size:=by
 grind[IR]
theorem IR.cell(h:IR w g G)(k)(H:k<G.length):w.cell? ⟨g,k,none⟩=some (h0 (G.getD k 0)):=by
 rw[cell_of_row w g k _ _ _ h];grind
theorem IR.free(h:IR w g G)(k):w.frozen? ⟨g,k,none⟩=false:=frozen_of_row w g k _ _ h
theorem IR.keep{h}(f:IR w g G)(k:Kept l h w D)(aT:g<l\/h<=g\/h<=l):IR D g G:=by
 unfold IR;rw[k.block g f.lt xaa];exact f
theorem IR.set(h:IR w g G)(k x):IR (w.setCell ⟨g,k,none⟩ (h0 x)) g (G.set k x):=by
 unfold IR at h⊢;exact qdk
theorem IR.is(h:IR w g G):IS w 0 w.heap.size (some ⟨g,0,none⟩) G.length G:=
 ⟨rfl,.inr ⟨g,0,rfl,yad,h.lt,h.lt,λk H=>by rw[Nat.zero_add];exact h.cell k H⟩⟩
theorem IR.made(w:World)(n):IR (w.alloc (.cells (madeCells #[h0 0] n) 3)) w.heap.size (List.replicate n 0):=by
 unfold IR;rw[heap_alloc_new]
 have:(madeCells #[h0 0] n)=(List.map (Value.int .i64) (List.replicate n 0)).toArray:=by
  apply Array.toList_inj.1;rw[toList_madeCells_one];simp
 rw[this]
theorem qy:(prog.info? 3).map (λi=>(i.zero,i.size,i.bytes))=some (some (h0 0),1,8):=by kernel_rfl
theorem yP(n:Nat)(w)(V:n<=1099511627776):
  (Instr.makeSlice 23 (h0 n) (h0 n)).run prog w=.ok (hZ w.heap.size n n) (w.alloc (.cells (madeCells #[h0 0] n) 3)):=by
 obtain⟨i,hi,ch,b6,ci⟩:=info_parts qy;have:=run_make w 23 3 i _ underlying23 hi ch .i64 .i64 n n xaa xaa (by grind) xaa;exact qdj
theorem wS(w a b){J l}:
  Calls prog 22 #[.slice a 0 J,.slice b 0 l] w λe D=>e=.returned (.bool true)/\D=w:=by
 go_enter func22,ntmps22;exact xbo
theorem GW(w){bz ca aJ b6}(n){J l}{G:List Int}(V:n<=1099511627776)(ar:∀k,k<n->w.cell? ⟨bz,ca+k,none⟩=some (h0 (G.getD k 0)))(aY:∀k,k<n->w.cell? ⟨aJ,b6+k,none⟩=some (h0 (G.getD k 0))):
  Calls prog 22 #[.slice (some ⟨bz,ca,none⟩) n J,.slice (some ⟨aJ,b6,none⟩) n l] w λe D=>e=.returned (.bool true)/\Drawn w D:=by
 have be:=Q ar;have u:=Q aY;clear ar aY;go_enter func22,ntmps22;go_wp2_with fail;go_loopw [5] (λi W=>∃k:Nat,k<=n/\i=h0 k/\Drawn w W) (λi _=>n-(intOf i).toNat)
 case atStart=>exact⟨0,yad,rfl,Drawn.refl _⟩
 case round=>
  obtain⟨k,H,rfl,bC⟩:=hrel;by_cases aV:k<n
  ·have c1:wr.cell? ⟨bz,ca+k,none⟩=some (h0 (G.getD k 0)):=by rw[bC.cell];exact be.o k aV
   have c2:wr.cell? ⟨aJ,b6+k,none⟩=some (h0 (G.getD k 0)):=by rw[bC.cell];exact u.o k aV
   generalize G.getD k 0=x at c1 c2;go_wp2_with fail;go_quiet (fail)
   go_wp2;go_roundw
   case rel=>exact⟨k+1,by omega,by go_num,bC.more _⟩
   case measure=>simp[intOf];omega
  go_wp2;go_ret;exact⟨rfl,bC⟩
theorem eqI{w lo hi C T a b n J G}(f:IS w lo hi a n G)(g:IS w C T b n G)(V:n<=1099511627776):
  Calls prog 22 #[.slice a n J,.slice b n l] w λe D=>e=.returned (.bool true)/\Drawn w D:=by
 obtain rfl|⟨bz,ca,rfl,a1,a2,a3,a4⟩:=f.at_
 ·exact(wS w a b).mono λ_ _ h=>⟨h.1,0,h.2⟩
 obtain rfl|⟨aJ,b6,rfl,L,bi,U,ae⟩:=g.at_
 ·exact(wS w _ b).mono λ_ _ h=>⟨h.1,0,h.2⟩
 exact GW w n V a4 ae
theorem GX(h:∀v∈vs,v.k<18446744073709551616)(k):(vs.getD k h7).k<18446744073709551616:=by
 rw[yah];by_cases H:k<vs.length
 ·simp_all
 rw[List.getElem?_eq_none xaa];exact(by decide:h7.k<18446744073709551616)
theorem La(x):((fb x:Int)==(fb x:Int))=true:=beq_self_eq_true _
theorem Of{w}(v:Vl)(H:v.k<18446744073709551616):
  Calls prog 54 #[v.agg,v.agg] w λe D=>e=.returned (.bool true)/\Kept 0 0 w D:=by
 have J:=Dd;go_enter func54,ntmps54;go_wp2_with fail;refine(Od H H).mono ?_;rintro e Z ⟨rfl,rfl⟩;rw[La];go_wp2;go_ret;exact⟨rfl,(dE 0 0 w _).trans (dE 0 0 _ _)⟩
theorem tV(w a b){J l}:
  Calls prog 23 #[.slice a 0 J,.slice b 0 l] w λe D=>e=.returned (.bool true)/\D=w:=by
 go_enter func23,ntmps23;exact xbo
theorem Dk(w){bz ca aJ b6}(n){J l}{vs:List Vl}(V:n<=1099511627776)(L:bz<w.heap.size)(bi:aJ<w.heap.size)(ab:∀v∈vs,v.k<18446744073709551616)(ar:∀k,k<n->At w bz (ca+k*6) (vs.getD k h7))(aY:∀k,k<n->At w aJ (b6+k*6) (vs.getD k h7)):
  Calls prog 23 #[.slice (some ⟨bz,ca,none⟩) n J,.slice (some ⟨aJ,b6,none⟩) n l] w λe D=>e=.returned (.bool true)/\Kept 0 0 w D:=by
 have be:=Q ar;have u:=Q aY;have bf:=Q ab;clear ar aY ab;go_enter func23,ntmps23;go_wp2_with fail;go_loopw [5] (λi W=>∃k:Nat,k<=n/\i=h0 k/\Kept 0 0 w W) (λi _=>n-(intOf i).toNat)
 case atStart=>grind[Kept.refl]
 case round=>
  obtain⟨k,H,rfl,bC⟩:=hrel;by_cases aV:k<n
  ·obtain⟨c0,c1,c2,c3,c4,c5⟩:=(be.o k aV).keep L bC yaa;obtain⟨cc,aW,bA,bs,aj,X⟩:=(u.o k aV).keep bi bC yaa;have aD:=GX bf.o k;generalize vs.getD k _=v at c0 c1 c2 c3 c4 c5 cc aW bA bs aj X aD;have bS:M (∀m,Calls _ _ _ _ λe D=>e=.returned _/\Kept 0 0 w _):=λm=>(Of v aD).mono λ_ _ h=>⟨h.1,(bC.trans (ed 0 0 m)).trans h.2⟩
   go_wp2_with fail;go_region_with (go_at_call 54;refine(bS.o 1).mono ?_;rintro e Z ⟨rfl,bc⟩)
   all_goals
    go_wp2
    grind[intOf]
  go_wp2;go_ret;exact⟨rfl,bC⟩
theorem PP{w lo hi C T a b n J vs}(f:VS w lo hi a n vs)(g:VS w C T b n vs)(V:n<=1099511627776):
  Calls prog 23 #[.slice a n J,.slice b n l] w λe D=>e=.returned (.bool true)/\Kept 0 0 w D:=by
 obtain rfl|⟨bz,ca,rfl,a1,a2,a3,a4⟩:=f.at_
 ·exact(tV w a b).mono λ_ _ h=>⟨h.1,by rw[h.2];exact Kept.refl _ _ _⟩
 obtain rfl|⟨aJ,b6,rfl,L,bi,U,ae⟩:=g.at_
 ·exact(tV w _ b).mono λ_ _ h=>⟨h.1,by rw[h.2];exact Kept.refl _ _ _⟩
 exact Dk w n V a3 U f.lt a4 ae
abbrev fj(a1:Option Addr)(n1 c1:Nat)(a2:Option Addr)(n2 c2:Nat)(a3:Option Addr)(n3 c3:Nat):Value:=.agg #[.slice a1 n1 c1,.slice a2 n2 c2,.slice a3 n3 c3]
structure GS(w:World)(a1:Option Addr)(n1:Nat)(a2:Option Addr)(n2:Nat)(a3:Option Addr)(n3:Nat)(ins:List Int)(vs:List Vl)(outs:List Int):Prop where
 i:IS w 0 w.heap.size a1 n1 ins
 v:VS w 0 w.heap.size a2 n2 vs
 o:IS w 0 w.heap.size a3 n3 outs
theorem IS.mono(f:IS w lo hi a n G)(z:C<=lo)(J:hi<=T):IS w C T a n G:=
 ⟨f.len,by
  obtain aC|⟨g,aO,e,a1,a2,a3,a4⟩:=f.at_<;>grind⟩
theorem VS.mono(f:VS w lo hi a n vs)(z:C<=lo)(J:hi<=T):VS w C T a n vs:=
 ⟨f.len,f.lt,by
  obtain aC|⟨g,aO,e,a1,a2,a3,a4⟩:=f.at_<;>grind⟩
theorem GS.keep{a1 a2 a3 n1 aI aE ins outs}(f:GS w a1 n1 a2 aI a3 aE ins vs outs)(k:Kept 0 0 w D):GS D a1 n1 a2 aI a3 aE ins vs outs:=
 ⟨(f.i.keep k yaa).mono yac k.size,(f.v.keep k yaa).mono yac k.size,(f.o.keep k yaa).mono yac k.size⟩
theorem fN(w g x y aX):Kept g (g+1) w (((w.setCell ⟨g,0,none⟩ x).setCell ⟨g,1,none⟩ y).setCell ⟨g,2,none⟩ aX):=by
 have k:∀(w:World) (a:Nat) (u:Value),Kept g (g+1) w _:=λw a u=>d9 w ⟨g,a,none⟩ u yab;exact((k _ _ _).trans (k _ _ _)).trans (k _ _ _)
theorem iz(w W)(k:Kept 0 0 w W)(g o v)(h:w.heap.size<=g):Kept 0 0 w (W.setCell ⟨g,o,none⟩ v):=
 k.new (d9 (lo:=g) (hi:=g+1) W ⟨g,o,none⟩ v yab) h
structure EG(W:World)(p:Nat)(b0 b1 b2 s0 s1 s2:Value):Prop where
 sz:p+1<W.heap.size
 q0:W.cell? ⟨p,0,none⟩=some b0
 q1:W.cell? ⟨p,1,none⟩=some b1
 q2:W.cell? ⟨p,2,none⟩=some b2
 r0:W.cell? ⟨p+1,0,none⟩=some s0
 r1:W.cell? ⟨p+1,1,none⟩=some s1
 r2:W.cell? ⟨p+1,2,none⟩=some s2
theorem EG.keep{W A p bK L bi bq ak az}(t:EG W p bK L bi bq ak az)(k:Kept 0 0 W A):EG A p bK L bi bq ak az:=by
 have e:∀g o,g<=p+1->_:=λg o h=>k.cell (p:=⟨g,o,none⟩) (Nat.lt_of_le_of_lt h t.sz) xaa;exact⟨yaj t.sz k.size,by rw[e _ _ xaa];exact t.q0,by rw[e _ _ xaa];exact t.q1,by rw[e _ _ xaa];exact t.q2,by rw[e _ _ xaa];exact t.r0,by rw[e _ _ xaa];exact t.r1,by rw[e _ _ xaa];exact t.r2⟩
theorem Dl(w:World)(bK L bi bq ak az):EG ((w.alloc (.cells #[bK,L,bi] 26)).alloc (.cells #[bq,ak,az] 26)) w.heap.size bK L bi bq ak az:=by
 have z:(w.alloc (.cells #[bK,L,bi] 26)).heap.size=w.heap.size+1:=by simp
 constructor;all_goals first|(go_simp;done)|(simp;done)
theorem uY{w a1 a2 a3 A a2' B n1}(c1){aI}(c2){aE}(c3 p u y){ins vs outs}(f:GS w a1 n1 a2 aI a3 aE ins vs outs)(g:GS w A n1 a2' aI B aE ins vs outs)(z:n1<=1048576)(J:aI<=1048576)(al:aE<=1048576):
  Calls prog 7 #[fj a1 n1 c1 a2 aI c2 a3 aE c3,fj A n1 p a2' aI u B aE y] w λe D=>e=.returned (.bool true)/\Kept 0 0 w D:=by
 have bd:=(dE 0 0 w (.cells #[.slice a1 n1 c1,.slice a2 aI c2,.slice a3 aE c3] 26)).trans (dE 0 0 _ (.cells #[.slice A n1 p,.slice a2' aI u,.slice B aE y] 26));have ax:=Dl w (.slice a1 n1 c1) (.slice a2 aI c2) (.slice a3 aE c3) (.slice A n1 p) (.slice a2' aI u) (.slice B aE y);have c:=f.keep bd;have aY:=g.keep bd;clear f g;go_enter func7,ntmps7;go_wp2_with fail;generalize L:(w.alloc _).alloc _=ao at ax bd c aY⊢;clear L;refine(eqI c.i aY.i xaa).mono ?_;rintro e a7 ⟨rfl,b⟩;have b0:=b.kept 0 0;clear b;replace ax:=ax.keep b0;replace c:=c.keep b0;replace aY:=aY.keep b0;replace bd:=bd.trans b0;clear b0;have bg:=ax.q1;have a8:=ax.r1;go_wp2_with fail;clear bg a8;refine(PP c.v aY.v xaa).mono ?_;rintro e aA ⟨rfl,F⟩;replace ax:=ax.keep F;replace c:=c.keep F;replace aY:=aY.keep F;replace bd:=bd.trans F;clear F;have bg:=ax.q2;have a8:=ax.r2;go_wp2_with fail;clear bg a8;refine(eqI c.o aY.o xaa).mono ?_;rintro e b7 ⟨rfl,h⟩;have b3:=h.kept 0 0;replace bd:=bd.trans b3;clear h b3 ax c aY;go_wp2;go_ret;exact⟨rfl,bd⟩
