import Derived.Test.YtcagphgmfbjneaaGreatP04
namespace Go.Proofs.Z
open Tryz
set_option maxRecDepth 1000000
set_option maxHeartbeats 0
open Go.RowKit Flt
attribute[local go_sem] eE eD eC
def ir(x y z:Nat):Nat:=if FloatKind.f64.format.order x 0==some .gt then y else z
theorem Bo(x y z w):Calls prog 173 #[.float .f64 x,.float .f64 y,.float .f64 z] w λe B=>e=.returned (.float .f64 (ir x y z))/\B=w:=by
 unfold ir;cases h:(FloatKind.f64.format.order x 0==some .gt)
 all_goals
  go_enter func173,ntmps173
  go_wp2
  go_ret
  exact⟨rfl,rfl⟩
theorem zo(w n)(ag:n<=1000)(az ed c0)(xs:List Nat)(bL:az<w.heap.size)(bQ:∀x∈xs,x<18446744073709551616)(ad:∀k,k<n->w.cell? ⟨az,ed+k,none⟩=some (.float .f64 (xs.getD k 0)))(b5 ch c1)(ys:List Nat)(U:b5<w.heap.size)(b6:∀x∈ys,x<18446744073709551616)(an:∀k,k<n->w.cell? ⟨b5,ch+k,none⟩=some (.float .f64 (ys.getD k 0)))(a0 b9 c2)(us:List Nat)(aV:a0<w.heap.size)(cf:∀x∈us,x<18446744073709551616)(av:∀k,k<n->w.cell? ⟨a0,b9+k,none⟩=some (.float .f64 (us.getD k 0))):
  Calls prog 172 #[.slice (some ⟨az,ed,none⟩) n c0,.slice (some ⟨b5,ch,none⟩) n c1,.slice (some ⟨a0,b9,none⟩) n c2,.func (.func 173) #[] #[]] w λe B=>Made n (λk=>ir (xs.getD k 0) (ys.getD k 0) (us.getD k 0)) w e B:=by
 have ao:=ry n w xaa;have a2:=lM w n (λk=>ir (xs.getD k 0) (ys.getD k 0) (us.getD k 0));generalize bm:w.alloc (.cells (madeCells #[.float .f64 0] n) 45)=aH at ao a2;clear bm;have C0:V (∀k,k<n->w.cell? ⟨az,ed+k,none⟩=some (.float .f64 (xs.getD k 0))):=ad;have f8:V (∀x∈xs,x<18446744073709551616):=bQ;clear ad bQ;have C1:V (∀k,k<n->w.cell? ⟨b5,ch+k,none⟩=some (.float .f64 (ys.getD k 0))):=an;have J:V (∀x∈ys,x<18446744073709551616):=b6;clear an b6;have aG:V (∀k,k<n->w.cell? ⟨a0,b9+k,none⟩=some (.float .f64 (us.getD k 0))):=av;have L2:V (∀x∈us,x<18446744073709551616):=cf;clear av cf;go_enter func172,ntmps172;go_wp2_with fail;clear ao;go_loopw [10,11,17] (λ_ _ i W=>∃k:Nat,k<=n/\i=h1 k/\Making w.heap.size n k (λk=>ir (xs.getD k 0) (ys.getD k 0) (us.getD k 0)) w W) (λ_ _ i _=>n-(intOf i).toNat)
 case atStart=>exact⟨0,yae,rfl,a2⟩
 case round=>
  obtain⟨k,O,rfl,bJ⟩:=hrel;clear a2;by_cases hlt:k<n
  ·obtain⟨aw,cF⟩:=bJ.cell hlt;have m1:=bJ.free;have bR:=iI bJ.kept bL (C0.o k hlt);have cj:V _:=gh f8.o k;have aM:=iI bJ.kept U (C1.o k hlt);have af:V _:=gh J.o k;have bi:=iI bJ.kept aV (aG.o k hlt);have bg:V _:=gh L2.o k;have aA:V (∀z,fb z=fb (ir (xs.getD k 0) (ys.getD k 0) (us.getD k 0))->fb z=fb ((λk=>ir (xs.getD k 0) (ys.getD k 0) (us.getD k 0)) k)):=λ_ h=>h;generalize xs.getD k 0=x at bR cj aA;generalize ys.getD k 0=y at aM af aA;generalize us.getD k 0=u at bi bg aA;go_wp2_with fail
   have R:V (Making w.heap.size n (k+1) (λk=>ir (xs.getD k 0) (ys.getD k 0) (us.getD k 0)) w (wr.setCell ⟨w.heap.size,k,none⟩ (.float .f64 (ir x y u)))):=by
    refine bJ.step yad ?_ (aA.o _ rfl) hlt;unfold ir;split
    ·exact af.o
    exact bg.o
   clear bJ;go_region_with (go_at_call 173;refine(Bo _ _ _ _).mono ?_;rintro e am ⟨rfl,rfl⟩)
   all_goals
    go_wp2
    go_roundw;exact⟨k+1,by omega,by go_num,R.o.drawn ⟨1,rfl⟩⟩;simp[intOf];omega
  obtain rfl:k=n:=xaa;go_wp2;go_ret;exact bJ.done
theorem Cr:Fn2 165 (cop .add):=λx y w _ _=>(yX x y w).mono λ_ _ h=>⟨_,h.1,gF _ _ _ _,fV _ _ _ _,_,h.2⟩
theorem FQ:Fn2 167 (cop .mul):=λx y w _ _=>(rz x y w).mono λ_ _ h=>⟨_,h.1,gF _ _ _ _,fV _ _ _ _,_,h.2⟩
theorem JT:Fn2 168 (cop .quo):=λx y w _ _=>(tP x y w).mono λ_ _ h=>⟨_,h.1,gF _ _ _ _,fV _ _ _ _,_,h.2⟩
theorem Dz(x y w):Calls prog 166 #[.float .f64 x,.float .f64 y] w λe B=>e=.returned (.float .f64 (fop .sub x y w))/\B=w.drewN (fnd .sub x y):=by
 have F:=@yU prog;have h2:=xq;go_enter func166,ntmps166;go_wp2;go_ret;exact⟨rfl,rfl⟩
theorem FT:Fn2 166 (cop .sub):=λx y w _ _=>(Dz x y w).mono λ_ _ h=>⟨_,h.1,gF _ _ _ _,fV _ _ _ _,_,h.2⟩
def jP(x y:Nat):Nat:=if FloatKind.f64.format.order x y==some .gt then x else y
theorem Bp:Fn2 171 jP:=by
 intro x y w ap bp;unfold jP;cases h:(FloatKind.f64.format.order x y==some .gt)
 ·go_enter func171,ntmps171;go_wp2;go_ret;exact⟨_,rfl,bp,rfl,0,rfl⟩
 go_enter func171,ntmps171;go_wp2;go_ret;exact⟨_,rfl,ap,rfl,0,rfl⟩
theorem lT(b w):(Op.unary .neg (.float .f64 b)).run prog w=.ok (.float .f64 (Op.negFloat .f64 b)) w:=rfl
theorem nh{b}(h:b<18446744073709551616):Op.negFloat .f64 b<18446744073709551616:=by
 grind[mX,ML,No]
theorem Bq:Fn1 170 (Op.negFloat .f64):=by
 intro x w ap;have F:=lT;go_enter func170,ntmps170;go_wp2;go_ret;exact⟨_,rfl,nh ap,rfl,0,rfl⟩
theorem Nw:Fn1 176 sF:=λx w ap=>(JL x w ap).mono λ_ _ h=>by
 obtain⟨y,F,h2,h3,m,h4⟩:=h
 exact⟨y,F,h3,h2,m,h4⟩
theorem xD(w)(x n:Nat)(ap:x<18446744073709551616)(ag:n<=1000):
  Calls prog 163 #[.float .f64 x,h1 n] w λe B=>Made n (λ_=>x) w e B:=by
 have ao:=ry n w xaa;have a2:=lM w n (λ_=>x);generalize bm:w.alloc _=aH at ao a2;clear bm;go_enter func163,ntmps163;go_wp2_with fail;clear ao;go_loopw [6,11] (λ_ i W=>∃k:Nat,k<=n/\i=h1 k/\Making w.heap.size n k (λ_=>x) w W) (λ_ i _=>n-(intOf i).toNat)
 case atStart=>grind
 case round=>
  obtain⟨k,O,rfl,bJ⟩:=hrel;clear a2;by_cases hlt:k<n
  ·obtain⟨aw,cF⟩:=bJ.cell hlt;have m1:=bJ.free;have R:V _:=bJ.step yad ap rfl hlt;clear bJ;go_wp2;go_roundw;exact⟨k+1,by omega,by go_num,R.o⟩;simp[intOf];omega
  obtain rfl:k=n:=xaa;go_wp2;go_ret;exact bJ.done
theorem FU(w n p x)(ap:x<18446744073709551616)(aQ:p<n):
  Made n (λk=>if k=p then x else 0) w (.returned (h0 w.heap.size n n)) ((w.alloc (.cells (madeCells #[.float .f64 0] n) 45)).setCell ⟨w.heap.size,p,none⟩ (.float .f64 x)):=by
 have h:=(FR.made w n).set p x;refine⟨_,rfl,h,?_,by simp,?_,(eA 0 0 w _).new (eU _ _ _ yac) yad⟩
 ·grind
 grind
theorem Nx(w)(x p n:Nat)(ap:x<18446744073709551616)(ag:n<=1000)(aQ:p<n):
  Calls prog 175 #[.float .f64 x,h1 p,h1 n] w λe B=>Made n (λk=>if k=p then x else 0) w e B:=by
 have ao:=ry n w xaa;have t:=FR.made w n;have R:=FU w n p x ap aQ;have c1:=t.cell p (by grind);have c2:=t.free p;clear t;generalize bm:w.alloc _=aH at ao c1 c2 R;clear bm;obtain⟨zs,bq,(R1:V _),(R2:V _),(R3:V _),(N:V _),(ah:V _)⟩:=R;clear bq;go_enter func175,ntmps175;go_wp2;go_ret;exact⟨_,rfl,R1.o,R2.o,R3.o,N.o,ah.o⟩
def lB:List Nat->Nat
 |[]=>0
 |x::xs=>xs.foldl (cop .add) x
theorem DA(xs y)(h:xs≠[]):lB (xs++[y])=cop .add (lB xs) y:=by
 cases xs<;>simp_all[lB]<;>grind
theorem pq(xs:List Nat)(k)(ak:0<k)(O:k<xs.length):lB (xs.take (k+1))=cop .add (lB (xs.take k)) (xs.getD k 0):=by
 rw[yau O,DA _ _ (by grind[List.take_eq_nil_iff])];simp_all
theorem qC(xs:List Nat)(h:0<xs.length):lB (xs.take 1)=xs.getD 0 0:=by
 cases xs with
 |nil=>simp at h
 |cons x r=>rfl
theorem Q1(w n)(ag:n<=1000)(ak:1<=n)(g o c xs)(ap:xs.length=n)(al:n<=c)(bE:∀x∈xs,x<18446744073709551616)(a:∀k,k<n->w.cell? ⟨g,o+k,none⟩=some (.float .f64 (xs.getD k 0))):
  Calls prog 174 #[.slice (some ⟨g,o,none⟩) n c,.func (.func 165) #[] #[]] w λe B=>∃z,e=.returned (.float .f64 z)/\z<18446744073709551616/\fb z=fb (lB xs)/\Drawn w B:=by
 have d:V _:=a;have f:V _:=bE;have HX:V _:=ap;have c0:=a 0 xaa;rw[Nat.add_zero]at c0;have bQ:V _:=gh bE 0;have aY:V (fb (xs.getD 0 0)=fb (lB (xs.take 1))):=by rw[qC _ xaa];rfl
 clear a bE ap;generalize xs.getD 0 0=bF at c0 bQ aY;by_cases F:n=1
 ·subst F;have af:xs.take 1=xs:=yap (i3 HX.o);rw[af]at aY;clear af;go_enter func174,ntmps174;go_wp2_with fail
  all_goals
   refine wp_loop_rounds 1 ?_
   rw[rounds_succ]
   go_wp2
   go_ret
   exact⟨_,rfl,bQ.o,aY.o,Drawn.refl _⟩
 have cd:¬c=1:=xaa;have bk:(n-1:Nat)=(n:Int)-1:=xaa;go_enter func174,ntmps174;go_wp2_with fail;clear bk;go_loopw [5,7,14] (λs _ i W=>∃(k z:Nat),k+1<=n/\i=h1 k/\s=.float .f64 z/\z<18446744073709551616/\V (fb z=fb (lB (xs.take (k+1))))/\Drawn w W) (λ_ _ i _=>n-(intOf i).toNat)
 case atStart=>exact⟨0,_,by omega,rfl,rfl,bQ.o,aY,Drawn.refl _⟩
 case round=>
  obtain⟨k,z,O,rfl,rfl,a5,aw,bx⟩:=hrel;by_cases hlt:k+1<n
  ·have bR:wr.cell? ⟨g,o+1+k,none⟩=some (.float .f64 (xs.getD (k+1) 0)):=by rw[bx.cell,show o+1+k=o+(k+1) by omega];exact d.o _ hlt
   have b6:V _:=gh f.o (k+1)
   have hst:V (∀b,fb b=fb (cop .add z (xs.getD (k+1) 0))->fb b=fb (lB (xs.take (k+1+1)))):=by
    intro b h;rw[h,pq _ _ xaa (i1 HX.o hlt)];congr 1;exact gn _ aw.o rfl
   generalize xs.getD _ 0=y at bR b6 hst;have cr:(k:Int)<(n-1:Nat):=xaa;go_wp2_with fail;refine(Cr _ _ _ a5 b6.o).mono ?_;rintro e am ⟨b,rfl,X,T,aV⟩;have R:V _:=hst.o _ T;clear T;go_wp2;go_roundw;exact⟨k+1,b,by omega,by go_num,rfl,X,R,bx.trans aV⟩;simp[intOf];omega
  have bM:k+1=n:=xaa
  have R:V (fb z=fb (lB xs)):=by
   have:=aw.o;rw[bM,yap (i3 HX.o)]at this;exact this
  have cr:(n-1:Nat)<=(k:Int):=xaa;clear bM;go_wp2;go_ret;exact⟨z,rfl,a5,R.o,bx⟩
