import Derived.Test.YtamokkcfibdghaaGreatP02
namespace Go.Proofs.Z
open Tryz
set_option maxRecDepth 1000000
set_option maxHeartbeats 0
open Go.RowKit Flt
attribute [local go_sem] eG eE eD
variable {g n k:Nat}{q:Nat->Nat}{w:World}
def Fn1 (F:Nat)(c:Nat->Nat):Prop:=∀(x:Nat) (w:World),x<18446744073709551616->
 Calls prog F #[.float .f64 x] w λe w'=>∃z,e=.returned (.float .f64 z)/\z<18446744073709551616/\fb z=fb (c x)/\Drawn w w'
def Fn2 (F:Nat)(c:Nat->Nat->Nat):Prop:=∀(x y:Nat) (w:World),x<18446744073709551616->y<18446744073709551616->
 Calls prog F #[.float .f64 x,.float .f64 y] w λe w'=>∃z,e=.returned (.float .f64 z)/\z<18446744073709551616/\fb z=fb (c x y)/\Drawn w w'
def Made (n:Nat)(q:Nat->Nat)(w:World)(e:Ending)(w':World):Prop:=
 ∃zs:List Nat,e=.returned (.slice (some ⟨w.heap.size,0,none⟩) n n)/\FR w' w.heap.size zs/\(∀z∈zs,z<18446744073709551616)/\zs.length=n/\(∀k,k<n->fb (zs.getD k 0)=fb (q k))/\Kept 0 0 w w'
def Making (g n k:Nat)(q:Nat->Nat)(w W:World):Prop:=
 ∃zs:List Nat,FR W g zs/\(∀z∈zs,z<18446744073709551616)/\zs.length=n/\(∀j,j<k->fb (zs.getD j 0)=fb (q j))/\Kept 0 0 w W
theorem iL(w n q):Making w.heap.size n 0 q w (w.alloc (.cells (madeCells #[.float .f64 0] n) 49)):=
 ⟨_,FR.made w n,by intro z bp;rw[List.eq_of_mem_replicate bp];omega,by simp,λj hj=>by omega,ez 0 0 w _⟩
theorem Making.kept{W}(h:Making g n k q w W):Kept 0 0 w W:=by
 obtain⟨_,_,_,_,_,h⟩:=h;exact h
theorem Making.cell{W}(h:Making g n k q w W)(O:k<n):∃v,W.cell? ⟨g,k,none⟩=some v:=by
 obtain⟨zs,B,_,h3,_,_⟩:=h;exact⟨_,B.cell k xaa⟩
theorem Making.free{W}(h:Making g n k q w W):W.frozen? ⟨g,k,none⟩=false:=by
 obtain⟨zs,B,_⟩:=h;exact B.free k
theorem Making.drawn{W W'}(h:Making g n k q w W)(d:Drawn W W'):Making g n k q w W':=by
 obtain⟨zs,B,R,h3,a8,bQ⟩:=h;exact⟨zs,B.keep (d.kept 0 0) yaa,R,h3,a8,bQ.trans (d.kept 0 0)⟩
theorem Making.step{W}(h:Making g n k q w W)(aW:w.heap.size<=g){z}(bp:z<18446744073709551616)(aq:fb z=fb (q k))(O:k<n):
  Making g n (k+1) q w (W.setCell ⟨g,k,none⟩ (.float .f64 z)):=by
 obtain⟨zs,B,R,h3,a8,bQ⟩:=h;refine⟨_,B.set k z,?_,by rw[List.length_set];exact h3,?_,bQ.new (eX (lo:=g) (hi:=g+1) W ⟨g,k,none⟩ _ yac) aW⟩
 ·intro x au;rcases List.mem_or_eq_of_mem_set au with c|c
  ·exact R x c
  rw[c];exact bp
 intro j hj;rw[yah,List.getElem?_set];by_cases e:k=j
 ·subst e;rw[hK rfl,hK xaa];exact aq
 rw[hJ e,<-yah];exact a8 j xaa
theorem Making.done{W}(h:Making w.heap.size n n q w W):Made n q w (.returned (hH w.heap.size n n)) W:=by
 obtain⟨zs,B,R,h3,a8,bQ⟩:=h;exact⟨zs,rfl,B,R,h3,a8,bQ⟩
theorem eQ{W}(h:Kept 0 0 w W){o}(aW:g<w.heap.size){v}(ai:w.cell? ⟨g,o,none⟩=some v):W.cell? ⟨g,o,none⟩=some v:=by
 rw[h.cell (p:=⟨g,o,none⟩) aW xaa];exact ai
theorem CJ(c)(bu:Fn2 76 c)(w n)(hn:n<=1000)(bY ai c0)(xs:List Nat)(bb:bY<w.heap.size)(bN:∀x∈xs,x<18446744073709551616)(H:∀k,k<n->w.cell? ⟨bY,ai+k,none⟩=some (.float .f64 (xs.getD k 0)))(br b1 c1)(bd:List Nat)(N:br<w.heap.size)(bP:∀x∈bd,x<18446744073709551616)(an:∀k,k<n->w.cell? ⟨br,b1+k,none⟩=some (.float .f64 (bd.getD k 0))):
  Calls prog 75 #[.slice (some ⟨bY,ai,none⟩) n c0,.slice (some ⟨br,b1,none⟩) n c1,.func (.func 76) #[] #[]] w λe J=>Made n (λk=>c (xs.getD k 0) (bd.getD k 0)) w e J:=by
 exact xai
theorem AA(c)(bu:Fn2 77 c)(w n)(hn:n<=1000)(bY ai c0)(xs:List Nat)(bb:bY<w.heap.size)(bN:∀x∈xs,x<18446744073709551616)(H:∀k,k<n->w.cell? ⟨bY,ai+k,none⟩=some (.float .f64 (xs.getD k 0)))(br b1 c1)(bd:List Nat)(N:br<w.heap.size)(bP:∀x∈bd,x<18446744073709551616)(an:∀k,k<n->w.cell? ⟨br,b1+k,none⟩=some (.float .f64 (bd.getD k 0))):
  Calls prog 75 #[.slice (some ⟨bY,ai,none⟩) n c0,.slice (some ⟨br,b1,none⟩) n c1,.func (.func 77) #[] #[]] w λe J=>Made n (λk=>c (xs.getD k 0) (bd.getD k 0)) w e J:=by
 exact xai
theorem AB(c)(bu:Fn2 78 c)(w n)(hn:n<=1000)(bY ai c0)(xs:List Nat)(bb:bY<w.heap.size)(bN:∀x∈xs,x<18446744073709551616)(H:∀k,k<n->w.cell? ⟨bY,ai+k,none⟩=some (.float .f64 (xs.getD k 0)))(br b1 c1)(bd:List Nat)(N:br<w.heap.size)(bP:∀x∈bd,x<18446744073709551616)(an:∀k,k<n->w.cell? ⟨br,b1+k,none⟩=some (.float .f64 (bd.getD k 0))):
  Calls prog 75 #[.slice (some ⟨bY,ai,none⟩) n c0,.slice (some ⟨br,b1,none⟩) n c1,.func (.func 78) #[] #[]] w λe J=>Made n (λk=>c (xs.getD k 0) (bd.getD k 0)) w e J:=by
 exact xai
theorem CK(c)(bu:Fn2 79 c)(w n)(hn:n<=1000)(bY ai c0)(xs:List Nat)(bb:bY<w.heap.size)(bN:∀x∈xs,x<18446744073709551616)(H:∀k,k<n->w.cell? ⟨bY,ai+k,none⟩=some (.float .f64 (xs.getD k 0)))(br b1 c1)(bd:List Nat)(N:br<w.heap.size)(bP:∀x∈bd,x<18446744073709551616)(an:∀k,k<n->w.cell? ⟨br,b1+k,none⟩=some (.float .f64 (bd.getD k 0))):
  Calls prog 75 #[.slice (some ⟨bY,ai,none⟩) n c0,.slice (some ⟨br,b1,none⟩) n c1,.func (.func 79) #[] #[]] w λe J=>Made n (λk=>c (xs.getD k 0) (bd.getD k 0)) w e J:=by
 exact xai
theorem wn(c)(bu:Fn2 82 c)(w n)(hn:n<=1000)(bY ai c0)(xs:List Nat)(bb:bY<w.heap.size)(bN:∀x∈xs,x<18446744073709551616)(H:∀k,k<n->w.cell? ⟨bY,ai+k,none⟩=some (.float .f64 (xs.getD k 0)))(br b1 c1)(bd:List Nat)(N:br<w.heap.size)(bP:∀x∈bd,x<18446744073709551616)(an:∀k,k<n->w.cell? ⟨br,b1+k,none⟩=some (.float .f64 (bd.getD k 0))):
  Calls prog 75 #[.slice (some ⟨bY,ai,none⟩) n c0,.slice (some ⟨br,b1,none⟩) n c1,.func (.func 82) #[] #[]] w λe J=>Made n (λk=>c (xs.getD k 0) (bd.getD k 0)) w e J:=by
 exact xai
theorem wo(c)(bu:Fn1 81 c)(w n)(hn:n<=1000)(bY ai c0)(xs:List Nat)(bb:bY<w.heap.size)(bN:∀x∈xs,x<18446744073709551616)(H:∀k,k<n->w.cell? ⟨bY,ai+k,none⟩=some (.float .f64 (xs.getD k 0))):
  Calls prog 80 #[.slice (some ⟨bY,ai,none⟩) n c0,.func (.func 81) #[] #[]] w λe J=>Made n (λk=>c (xs.getD k 0)) w e J:=by
 exact xbf
theorem EU(c)(bu:Fn1 87 c)(w n)(hn:n<=1000)(bY ai c0)(xs:List Nat)(bb:bY<w.heap.size)(bN:∀x∈xs,x<18446744073709551616)(H:∀k,k<n->w.cell? ⟨bY,ai+k,none⟩=some (.float .f64 (xs.getD k 0))):
  Calls prog 80 #[.slice (some ⟨bY,ai,none⟩) n c0,.func (.func 87) #[] #[]] w λe J=>Made n (λk=>c (xs.getD k 0)) w e J:=by
 exact xbf
def iC (x y z:Nat):Nat:=if FloatKind.f64.format.order x 0==some .gt then y else z
theorem AC(x y z w):Calls prog 84 #[.float .f64 x,.float .f64 y,.float .f64 z] w λe J=>e=.returned (.float .f64 (iC x y z))/\J=w:=by
 unfold iC;cases h:(FloatKind.f64.format.order x 0==some .gt)
 all_goals
  go_enter func84,ntmps84
  go_wp2
  go_ret
  exact⟨rfl,rfl⟩
theorem yy(w n)(hn:n<=1000)(bY ai c0)(xs:List Nat)(bb:bY<w.heap.size)(bN:∀x∈xs,x<18446744073709551616)(H:∀k,k<n->w.cell? ⟨bY,ai+k,none⟩=some (.float .f64 (xs.getD k 0)))(br b1 c1)(bd:List Nat)(N:br<w.heap.size)(bP:∀x∈bd,x<18446744073709551616)(an:∀k,k<n->w.cell? ⟨br,b1+k,none⟩=some (.float .f64 (bd.getD k 0)))(ag bS c2)(us:List Nat)(aA:ag<w.heap.size)(b8:∀x∈us,x<18446744073709551616)(ao:∀k,k<n->w.cell? ⟨ag,bS+k,none⟩=some (.float .f64 (us.getD k 0))):
  Calls prog 83 #[.slice (some ⟨bY,ai,none⟩) n c0,.slice (some ⟨br,b1,none⟩) n c1,.slice (some ⟨ag,bS,none⟩) n c2,.func (.func 84) #[] #[]] w λe J=>Made n (λk=>iC (xs.getD k 0) (bd.getD k 0) (us.getD k 0)) w e J:=by
 have az:=mH n w xaa;have aT:=iL w n (λk=>iC (xs.getD k 0) (bd.getD k 0) (us.getD k 0));generalize t:w.alloc (.cells (madeCells #[.float .f64 0] n) 49)=aB at az aT;clear t;have F:V (∀k,k<n->w.cell? ⟨bY,ai+k,none⟩=some (.float .f64 (xs.getD k 0))):=H;have Q:V (∀x∈xs,x<18446744073709551616):=bN;clear H bN;have C1:V (∀k,k<n->w.cell? ⟨br,b1+k,none⟩=some (.float .f64 (bd.getD k 0))):=an;have f:V (∀x∈bd,x<18446744073709551616):=bP;clear an bP;have j:V (∀k,k<n->w.cell? ⟨ag,bS+k,none⟩=some (.float .f64 (us.getD k 0))):=ao;have L2:V (∀x∈us,x<18446744073709551616):=b8;clear ao b8;go_enter func83,ntmps83;go_wp2_with fail;clear az;go_loopw [10,11,17] (λ_ _ i W=>∃k:Nat,k<=n/\i=hI k/\Making w.heap.size n k (λk=>iC (xs.getD k 0) (bd.getD k 0) (us.getD k 0)) w W) (λ_ _ i _=>n-(intOf i).toNat)
 case atStart=>exact⟨0,Nat.zero_le _,rfl,aT⟩
 case round=>
  obtain⟨k,O,rfl,C⟩:=hrel;clear aT;by_cases aF:k<n
  ·obtain⟨ay,S⟩:=C.cell aF;have m1:=C.free;have bD:=eQ C.kept bb (F.o k aF);have bl:V _:=fx Q.o k;have d1:=eQ C.kept N (C1.o k aF);have ae:V _:=fx f.o k;have d2:=eQ C.kept aA (j.o k aF);have a9:V _:=fx L2.o k;have aq:V (∀z,fb z=fb (iC (xs.getD k 0) (bd.getD k 0) (us.getD k 0))->fb z=fb ((λk=>iC (xs.getD k 0) (bd.getD k 0) (us.getD k 0)) k)):=λ_ h=>h;generalize xs.getD k 0=x at bD bl aq;generalize bd.getD k 0=y at d1 ae aq;generalize us.getD k 0=u at d2 a9 aq;go_wp2_with fail
   have aa:V (Making w.heap.size n (k+1) (λk=>iC (xs.getD k 0) (bd.getD k 0) (us.getD k 0)) w (wr.setCell ⟨w.heap.size,k,none⟩ (.float .f64 (iC x y u)))):=by
    refine C.step yad ?_ (aq.o _ rfl) aF;unfold iC;split
    ·exact ae.o
    exact a9.o
   clear C;go_region_with (go_at_call 84;refine(AC _ _ _ _).mono ?_;rintro e af ⟨rfl,rfl⟩)
   all_goals
    go_wp2
    go_roundw
    case rel=>exact⟨k+1,by omega,by go_num,aa.o.drawn ⟨1,rfl⟩⟩
    case measure=>simp[intOf];omega
  obtain rfl:k=n:=xaa;go_wp2;go_ret;exact C.done
theorem BH:Fn2 76 (cop .add):=λx y w _ _=>(yv x y w).mono λ_ _ h=>⟨_,h.1,iE _ _ _ _,ik _ _ _ _,_,h.2⟩
theorem EV:Fn2 78 (cop .mul):=λx y w _ _=>(qZ x y w).mono λ_ _ h=>⟨_,h.1,iE _ _ _ _,ik _ _ _ _,_,h.2⟩
theorem IY:Fn2 79 (cop .quo):=λx y w _ _=>(sS x y w).mono λ_ _ h=>⟨_,h.1,iE _ _ _ _,ik _ _ _ _,_,h.2⟩
theorem CL(x y w):Calls prog 77 #[.float .f64 x,.float .f64 y] w λe J=>e=.returned (.float .f64 (fop .sub x y w))/\J=w.drewN (fnd .sub x y):=by
 have B:=@yt prog;have R:=wk;go_enter func77,ntmps77;go_wp2;go_ret;exact⟨rfl,rfl⟩
theorem EW:Fn2 77 (cop .sub):=λx y w _ _=>(CL x y w).mono λ_ _ h=>⟨_,h.1,iE _ _ _ _,ik _ _ _ _,_,h.2⟩
def jr (x y:Nat):Nat:=if FloatKind.f64.format.order x y==some .gt then x else y
theorem AD:Fn2 82 jr:=by
 intro x y w au bV;unfold jr;cases h:(FloatKind.f64.format.order x y==some .gt)
 ·go_enter func82,ntmps82;go_wp2;go_ret;exact⟨_,rfl,bV,rfl,0,rfl⟩
 go_enter func82,ntmps82;go_wp2;go_ret;exact⟨_,rfl,au,rfl,0,rfl⟩
theorem uQ(b w):(Op.unary .neg (.float .f64 b)).run prog w=.ok (.float .f64 (Op.negFloat .f64 b)) w:=rfl
theorem wu{b}(h:b<18446744073709551616):Op.negFloat .f64 b<18446744073709551616:=by
 obtain⟨s,r,ay,rfl⟩:=jD b h;rw[uL s ay];exact EO ay
theorem AE:Fn1 81 (Op.negFloat .f64):=by
 intro x w au;have B:=uQ;go_enter func81,ntmps81;go_wp2;go_ret;exact⟨_,rfl,wu au,rfl,0,rfl⟩
theorem Mg:Fn1 87 qk:=λx w au=>(IX x w au).mono λ_ _ h=>by
 obtain⟨y,B,R,h3,m,a8⟩:=h
 exact⟨y,B,h3,R,m,a8⟩
theorem wv(w)(x n:Nat)(au:x<18446744073709551616)(hn:n<=1000):
  Calls prog 74 #[.float .f64 x,hI n] w λe J=>Made n (λ_=>x) w e J:=by
 have az:=mH n w xaa;have aT:=iL w n (λ_=>x);generalize t:w.alloc (.cells (madeCells #[.float .f64 0] n) 49)=aB at az aT;clear t;go_enter func74,ntmps74;go_wp2_with fail;clear az;go_loopw [6,11] (λ_ i W=>∃k:Nat,k<=n/\i=hI k/\Making w.heap.size n k (λ_=>x) w W) (λ_ i _=>n-(intOf i).toNat)
 case atStart=>exact⟨0,Nat.zero_le _,rfl,aT⟩
 case round=>
  obtain⟨k,O,rfl,C⟩:=hrel;clear aT;by_cases aF:k<n
  ·obtain⟨ay,S⟩:=C.cell aF;have m1:=C.free;have aa:V _:=C.step yad au rfl aF;clear C;exact xas
  obtain rfl:k=n:=xaa;go_wp2;go_ret;exact C.done
theorem EX(w n p x)(au:x<18446744073709551616)(aK:p<n):
  Made n (λk=>if k=p then x else 0) w (.returned (hH w.heap.size n n)) ((w.alloc (.cells (madeCells #[.float .f64 0] n) 49)).setCell ⟨w.heap.size,p,none⟩ (.float .f64 x)):=by
 have h:=(FR.made w n).set p x;refine⟨_,rfl,h,?_,by simp,?_,(ez 0 0 w _).new (eX _ _ _ yac) yad⟩
 ·intro y bV;rcases List.mem_or_eq_of_mem_set bV with c|c
  ·rw[List.eq_of_mem_replicate c];omega
  rw[c];exact au
 intro k O;rw[yah,List.getElem?_set];by_cases e:p=k
 ·subst e;rw[hK rfl,hK (by simpa using aK)];show fb x=fb (if p=p then x else 0);rw[hK rfl]
 rw[hJ e,List.getElem?_replicate,hK O];show fb 0=fb (if k=p then x else 0);rw[hJ (λc=>e c.symm)]
theorem Mh(w)(x p n:Nat)(au:x<18446744073709551616)(hn:n<=1000)(aK:p<n):
  Calls prog 86 #[.float .f64 x,hI p,hI n] w λe J=>Made n (λk=>if k=p then x else 0) w e J:=by
 have az:=mH n w xaa;have f:=FR.made w n;have aa:=EX w n p x au aK;have c1:=f.cell p (by simpa using aK);have c2:=f.free p;clear f;generalize t:w.alloc (.cells (madeCells #[.float .f64 0] n) 49)=aB at az c1 c2 aa;clear t;obtain⟨zs,bn,(R1:V _),(R2:V _),(R3:V _),(bm:V _),(cp:V _)⟩:=aa;clear bn;go_enter func86,ntmps86;go_wp2;go_ret;exact⟨zs,rfl,R1.o,R2.o,R3.o,bm.o,cp.o⟩
def kR:List Nat->Nat
 |[]=>0
 |x::xs=>xs.foldl (cop .add) x
theorem CN(xs y)(h:xs≠[]):kR (xs++[y])=cop .add (kR xs) y:=by
 cases xs with
 |nil=>exact absurd rfl h
 |cons x r=>simp[kR,List.foldl_append]
theorem oS(xs:List Nat)(k)(aj:0<k)(O:k<xs.length):kR (xs.take (k+1))=cop .add (kR (xs.take k)) (xs.getD k 0):=by
 rw[yat O,CN _ _ (by intro c;rcases List.take_eq_nil_iff.1 c with c|c;omega;rw[c]at O;simp at O)];rw[yah,yal O];rfl
theorem ql(xs:List Nat)(h:0<xs.length):kR (xs.take 1)=xs.getD 0 0:=by
 cases xs with
 |nil=>simp at h
 |cons x r=>rfl
theorem PV(w n)(hn:n<=1000)(aj:1<=n)(g o c xs)(au:xs.length=n)(ai:n<=c)(cu:∀x∈xs,x<18446744073709551616)(f:∀k,k<n->w.cell? ⟨g,o+k,none⟩=some (.float .f64 (xs.getD k 0))):
  Calls prog 85 #[.slice (some ⟨g,o,none⟩) n c,.func (.func 76) #[] #[]] w λe J=>∃z,e=.returned (.float .f64 z)/\z<18446744073709551616/\fb z=fb (kR xs)/\Drawn w J:=by
 have l:V (∀k,k<n->w.cell? ⟨g,o+k,none⟩=some (.float .f64 (xs.getD k 0))):=f;have m:V (∀x∈xs,x<18446744073709551616):=cu;have bv:V (xs.length=n):=au;have c0:=f 0 xaa;rw[Nat.add_zero]at c0;have bN:V _:=fx cu 0;have s0:V (fb (xs.getD 0 0)=fb (kR (xs.take 1))):=by rw[ql xs xaa];rfl
 clear f cu au;generalize xs.getD 0 0=bL at c0 bN s0;by_cases B:n=1
 ·subst B;have ae:xs.take 1=xs:=yao (hW bv.o);rw[ae]at s0;clear ae;go_enter func85,ntmps85;go_wp2_with fail
  all_goals
   refine wp_loop_rounds 1 ?_
   rw[rounds_succ]
   go_wp2
   go_ret
   exact⟨bL,rfl,bN.o,s0.o,Drawn.refl _⟩
 have ar:¬c=1:=xaa;have a9:((n-1:Nat):Int)=(n:Int)-1:=xaa;go_enter func85,ntmps85;go_wp2_with fail;clear a9;go_loopw [5,7,14] (λs _ i W=>∃(k z:Nat),k+1<=n/\i=hI k/\s=.float .f64 z/\z<18446744073709551616/\V (fb z=fb (kR (xs.take (k+1))))/\Drawn w W) (λ_ _ i _=>n-(intOf i).toNat)
 case atStart=>exact⟨0,bL,by omega,rfl,rfl,bN.o,s0,Drawn.refl _⟩
 case round=>
  obtain⟨k,z,O,rfl,rfl,bp,ad,bf⟩:=hrel;by_cases aF:k+1<n
  ·have bD:wr.cell? ⟨g,o+1+k,none⟩=some (.float .f64 (xs.getD (k+1) 0)):=by rw[bf.cell,show o+1+k=o+(k+1) by omega];exact l.o (k+1) aF
   have bP:V _:=fx m.o (k+1)
   have cG:V (∀j,fb j=fb (cop .add z (xs.getD (k+1) 0))->fb j=fb (kR (xs.take (k+1+1)))):=by
    intro j h;rw[h,oS xs (k+1) xaa (hU bv.o aF)];congr 1;exact gL .add ad.o rfl
   generalize xs.getD (k+1) 0=y at bD bP cG;have aN:(k:Int)<((n-1:Nat):Int):=xaa;go_wp2_with fail;refine(BH _ _ _ bp bP.o).mono ?_;rintro e af ⟨j,rfl,X,r,aW⟩;have aa:V _:=cG.o j r;clear r;go_wp2;go_roundw
   case rel=>exact⟨k+1,j,by omega,by go_num,rfl,X,aa,bf.trans aW⟩
   case measure=>simp[intOf];omega
  have bY:k+1=n:=xaa
  have aa:V (fb z=fb (kR xs)):=by
   have:=ad.o;rw[bY,yao (hW bv.o)]at this;exact this
  have aN:((n-1:Nat):Int)<=(k:Int):=xaa;clear bY;go_wp2;go_ret;exact⟨z,rfl,bp,aa.o,bf⟩
