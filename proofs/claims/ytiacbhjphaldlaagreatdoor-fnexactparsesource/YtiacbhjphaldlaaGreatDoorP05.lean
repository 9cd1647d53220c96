import Derived.Test.YtiacbhjphaldlaaGreatDoorP04
namespace Go.Proofs.Z
set_option maxRecDepth 1000000
set_option maxHeartbeats 0
section
open Tryz
open Go.RowKit Flt
attribute[local go_sem] dI dG dF
structure IBk(w:World)(g n:Nat)(xs:List Int):Prop where
 len:xs.length=n
 lt:g<w.heap.size
 at_:∀k,k<n->w.cell? ⟨g,k,none⟩=some (.int .i64 (xs.getD k 0))
 free:∀o,w.frozen? ⟨g,o,none⟩=false
theorem IBk.keep{w D g n l h G}(f:IBk w g n G)(k:Kept l h w D)(aT:g<l\/h<=g\/h<=l):IBk D g n G:=
 ⟨f.len,yaj f.lt k.size,λj aK=>by rw[k.cell f.lt (by grind)];exact f.at_ j aK,λo=>by rw[k.frozen f.lt (by grind)];exact f.free o⟩
theorem IBk.put{w g n G}(f:IBk w g n G)(j)(aK:j<n)(x):IBk (w.setCell ⟨g,j,none⟩ (h0 x)) g n (G.set j x) where
 len:=by rw[List.length_set];exact f.len
 lt:=by simpa using f.lt
 at_:=λk H=>by
  rw[yah,List.getElem?_set]
  by_cases e:j=k
  ·subst e
   rw[h3 rfl,h3 (it f.len aK)]
   exact eR (f.at_ j aK)
  ·rw[h2 e,dR (.inr e),<-yah]
   exact f.at_ k H
 free:=λo=>by simp[f.free o]
theorem rK{au:Type}(G:List au)(aX x j i)(aK:j<G.length):(G.set j x).getD i aX=if i=j then x else G.getD i aX:=by
 grind
theorem Lb(w g n){cap}(k){G}(a0:IBk w g n G)(aC:0<=k)(z:k<=1099511627776)(V:n<=1099511627776):
  Calls prog 24 #[hZ g n cap,h0 k] w λe D=>e=.returned (h0 (k+n))/\(∃ys,IBk D g n ys/\∀i,i<n->ys.getD i 0=k+i)/\Kept g (g+1) w D:=by
 go_enter func24,ntmps24;go_wp2_with fail;go_loopw [1,5] (λct i W=>∃j:Nat,j<=n/\i=h0 j/\ct=h0 (k+j)/\M (∃ys,IBk W g n ys/\∀i,i<j->ys.getD i 0=k+i)/\Kept g (g+1) w W) (λ_ i _=>n-(intOf i).toNat)
 case atStart=>exact⟨0,yad,rfl,by simp,⟨_,a0,λi hi=>by omega⟩,Kept.refl _ _ _⟩
 case round=>
  obtain⟨j,aK,rfl,rfl,f,c⟩:=hrel;obtain⟨ys,b,aY⟩:=f.o;by_cases aV:j<n
  ·have c2:=b.at_ j aV;have c3:=b.free j
   have bm:M (∃ys,IBk _ g n ys/\∀i,i<j+1->ys.getD i 0=k+i):=⟨_,b.put j aV _,λi hi=>by
    rw[rK _ 0 _ j i (it b.len aV)]
    by_cases e:i=j
    ·subst e;rw[h3 rfl]
    ·rw[h2 e];exact aY i xaa⟩
   have bP:M _:=c.trans (d9 _ ⟨g,j,none⟩ (h0 (k+j)) yab);exact xfn
  exact xev
theorem Lc(w g n){cap}(k){G}(a0:IBk w g n G)(aY:∀i,i<n->G.getD i 0=k+i)(aC:0<=k)(z:k<=1099511627776)(V:n<=1099511627776):
  Calls prog 26 #[hZ g n cap,h0 k] w λe D=>e=.returned (h0 (k+n))/\Drawn w D:=by
 have bk:=Q a0;have u:=Q aY;clear a0 aY;go_enter func26,ntmps26;go_wp2_with fail;go_loopw [1,5] (λct i W=>∃j:Nat,j<=n/\i=h0 j/\ct=h0 (k+j)/\Drawn w W) (λ_ i _=>n-(intOf i).toNat)
 case atStart=>grind[Drawn.refl]
 case round=>
  obtain⟨j,aK,rfl,rfl,bC⟩:=hrel;by_cases aV:j<n
  ·have c2:wr.cell? ⟨g,j,none⟩=some (h0 (k+j)):=by rw[bC.cell,<-u.o j aV];exact bk.o.at_ j aV
   have c3:(k+j !=k+j)=false:=by simp
   go_wp2;grind[intOf]
  obtain rfl:j=n:=xaa;go_wp2;go_ret;exact⟨rfl,bC⟩
def vm(k:Int):Vl:=⟨k,k+1,k+1+1,k+1+1+1,k+1+1+1+1,floatOfInt .f64 (k+1+1+1+1+1)⟩
theorem Ld(w g n){cap}(k){vs}(a0:VA w g n vs)(aC:0<=k)(z:k<=1099511627776)(V:n<=1099511627776):
  Calls prog 25 #[hZ g n cap,h0 k] w λe D=>e=.returned (h0 (k+6*n))/\(∃ys,VA D g n ys/\∀i,i<n->ys.getD i h7=vm (k+6*i))/\Kept g (g+1) w D:=by
 go_enter func25,ntmps25;go_wp2_with fail;go_loopw [1,5] (λct i W=>∃j:Nat,j<=n/\i=h0 j/\ct=h0 (k+6*j)/\M (∃ys,VA W g n ys/\∀i,i<j->ys.getD i h7=vm (k+6*i))/\Kept g (g+1) w W) (λ_ i _=>n-(intOf i).toNat)
 case atStart=>exact⟨0,yad,rfl,by simp,⟨_,a0,λi hi=>by omega⟩,Kept.refl _ _ _⟩
 case round=>
  obtain⟨j,aK,rfl,rfl,f,c⟩:=hrel;obtain⟨ys,b,aY⟩:=f.o;by_cases aV:j<n
  ·obtain⟨cc,aW,bA,bs,aj,X⟩:=b.at_ j aV;have c3:=b.free
   have bi:M (∀i,i<j+1->(ys.set j _).getD i _=vm _):=λi hi=>by
    rw[rK _ _ _ j i (it b.len aV)]
    by_cases e:i=j
    ·subst e;rw[h3 rfl]
    ·rw[h2 e];exact aY i xaa
   generalize aG:k+6*j=ae at bi;have bK:0<=ae:=xaa;have L:ae<=10995116277760:=xaa;have bm:M _:=b.step j aV ⟨ae,ae+1,ae+1+1,ae+1+1+1,ae+1+1+1+1,floatOfInt .f64 (ae+1+1+1+1+1)⟩;have bP:M _:=c.trans (tU _ g (j*6) ⟨ae,ae+1,ae+1+1,ae+1+1+1,ae+1+1+1+1,floatOfInt .f64 (ae+1+1+1+1+1)⟩);have R3:=Q aG;clear b c a0 aG aY f;go_wp2;go_roundw
   case rel=>exact⟨j+1,by omega,by go_num,by have:=R3.o;congr 1;omega,⟨_,bm.o,bi.o⟩,bP.o⟩
   case measure=>simp[intOf];omega
  exact xev
theorem Le(w g n){cap}(k){vs}(a0:VA w g n vs)(aY:∀i,i<n->vs.getD i h7=vm (k+6*i))(aC:0<=k)(z:k<=1099511627776)(V:n<=1099511627776):
  Calls prog 27 #[hZ g n cap,h0 k] w λe D=>e=.returned (h0 (k+6*n))/\Drawn w D:=by
 have bk:=Q a0;have u:=Q aY;clear a0 aY;go_enter func27,ntmps27;go_wp2_with fail;go_loopw [1,5] (λct i W=>∃j:Nat,j<=n/\i=h0 j/\ct=h0 (k+6*j)/\Drawn w W) (λ_ i _=>n-(intOf i).toNat)
 case atStart=>grind[Drawn.refl]
 case round=>
  obtain⟨j,aK,rfl,rfl,bC⟩:=hrel;by_cases aV:j<n
  ·have ce:=bk.o.at_ j aV;rw[u.o j aV]at ce;obtain⟨cc,aW,bA,bs,aj,X⟩:=ce;rw[<-bC.cell]at cc aW bA bs aj X;simp only[vm]at cc aW bA bs aj X;generalize aG:k+6*j=ae at cc aW bA bs aj X;have bK:0<=ae:=xaa;have L:ae<=10995116277760:=xaa;have R3:=Q aG;have K:∀x:Int,(x !=x)=false:=λx=>by simp
   have a6:=Bv (ae+1+1+1+1+1);clear aG;go_wp2;go_roundw
   case rel=>exact⟨j+1,by omega,by go_num,by have:=R3.o;congr 1;omega,bC⟩
   case measure=>simp[intOf];omega
  obtain rfl:j=n:=xaa;go_wp2;go_ret;exact⟨rfl,bC⟩
end
section
open Tryz
open Go.RowKit Flt
attribute[local go_sem] dI dG dF
variable{vs:List Vl}
def lm(op:Int):Bool:=decide (op=11\/op=12)
def jr(v:Vl):Bool:=!(((decide (cnt v.op<1)&&v.op !=0)&&v.a !=0)||(decide (cnt v.op<2)&&v.b !=0)||((decide (cnt v.op<3)&&!lm v.op)&&v.c !=0))
def fy(v:Vl):List Int:=[v.a,v.b,v.c].take (cnt v.op)
theorem BA(v):(fy v).length=cnt v.op:=by
 have:=kN v.op;simp[fy];omega
theorem ms(w v):Calls prog 194 #[v.agg] w λe D=>∃g,e=.returned (hZ g (cnt v.op) 3)/\IS D w.heap.size D.heap.size (some ⟨g,0,none⟩) (cnt v.op) (fy v)/\g+1=D.heap.size/\Kept 0 0 w D:=by
 have i:=kN v.op;have bh:M _:=(GV (w.alloc (ir v.op v.len v.a v.b v.c v.k)) v.a v.b v.c).prefix _ i;have aE:M _:=GP v.op;generalize an:cnt _=q at bh aE i;have bK:(0:Int)<=q:=xaa;have L:(q:Int)<=3:=xaa;go_enter func194,ntmps194;go_wp2_with fail
 go_region_held3 (λD=>D.cell? ⟨w.heap.size,0,none⟩=some (h0 v.op)/\D.cell? ⟨w.heap.size,2,none⟩=some (h0 v.a)/\D.cell? ⟨w.heap.size,3,none⟩=some (h0 v.b)/\D.cell? ⟨w.heap.size,4,none⟩=some (h0 v.c)) (go_keep)
  ((go_at_call 207;refine(aE.o _).mono ?_;rintro e Z ⟨rfl,rfl⟩))
 all_goals
  go_wp2
  go_ret
  have z:(w.alloc (ir v.op v.len v.a v.b v.c v.k)).heap.size=w.heap.size+1:=by simp
  have a:=bh.o
  rw[z]at a
  refine⟨_,rfl,⟨a.len.trans rfl |> λe=>by rw[fy,an];exact e,?_⟩,?_,?_⟩
  ·obtain aC|⟨g,aO,e,a1,a2,a3,a4⟩:=a.at_
   ·exact .inl aC
   ·cases e
    refine .inr ⟨_,_,rfl,Nat.le_succ _,?_,?_,λk H=>?_⟩
    ·exact a3
    ·exact a3
    ·rw[fy,an];exact a4 k H
  ·show w.heap.size+1+1=((w.alloc _).alloc _).heap.size
   simp
  ·exact((dE 0 0 w _).trans (dE 0 0 _ _)).trans (ed 0 0 1)
def okV(ins:List Int)(vs:List Vl)(i:Nat):Bool:=
 (lenB (vs.getD i h7).len&&jr (vs.getD i h7))&&
  (if (vs.getD i h7).op=0 then jL (vs.getD i h7).a ins.length&&(vs.getD i h7).len==ins.getD (vs.getD i h7).a.toNat 0
   else (fy (vs.getD i h7)).all (jL · i)&&gO (vs.getD i h7).op (vs.getD i h7).len (vs.getD i h7).c ((fy (vs.getD i h7)).map λo=>(vs.getD o.toNat h7).len))
abbrev eZ(a1:Option Addr)(n1 c1:Nat)(a2:Option Addr)(n2 c2:Nat)(a3:Option Addr)(n3 c3:Nat):Obj:=.cells #[.slice a1 n1 c1,.slice a2 n2 c2,.slice a3 n3 c3] 26
def dK:List Vl->Int
 |[]=>0
 |v::vs=>v.len+dK vs
theorem oh(G v):dK (G++[v])=dK G+v.len:=by
 induction G<;>grind[dK]
theorem wU{k}(H:k<vs.length):dK (vs.take (k+1))=dK (vs.take k)+(vs.getD k h7).len:=by
 rw[yas H,oh,yah,yal H];rfl
theorem iA{ins i}(h:okV ins vs i=true):1<=(vs.getD i h7).len/\(vs.getD i h7).len<=1000:=by
 unfold okV at h;rw[Bool.and_eq_true,Bool.and_eq_true]at h;exact of_decide_eq_true h.1.1
structure G0(W:World)(p:Nat)(b0 b1 b2:Value):Prop where
 sz:p<W.heap.size
 q0:W.cell? ⟨p,0,none⟩=some b0
 q1:W.cell? ⟨p,1,none⟩=some b1
 q2:W.cell? ⟨p,2,none⟩=some b2
theorem G0.keep{W A p bK L bi}(t:G0 W p bK L bi)(k:Kept 0 0 W A):G0 A p bK L bi:=
 ⟨yaj t.sz k.size,dZ k t.sz t.q0,dZ k t.sz t.q1,dZ k t.sz t.q2⟩
theorem gQ(w:World)(bK L bi):G0 (w.alloc (.cells #[bK,L,bi] 26)) w.heap.size bK L bi:=by
 refine⟨?_,?_,?_,?_⟩;all_goals first|(go_simp;done)|(simp;done)
