import Derived.Test.YtaheilbiakhlgaaGreatP02
namespace Go.Proofs.Z
open Tryz
set_option maxRecDepth 1000000
set_option maxHeartbeats 0
open Go.RowKit Flt
attribute[local go_sem] eF eE eD
variable{g n k:Nat}{q:Nat->Nat}{w:World}
def Fn1(F:Nat)(c:Nat->Nat):Prop:=∀(x:Nat) (w:World),x<18446744073709551616->
 Calls prog F #[.float .f64 x] w λe w'=>∃z,e=.returned (.float .f64 z)/\z<18446744073709551616/\fb z=fb (c x)/\Drawn w w'
def Fn2(F:Nat)(c:Nat->Nat->Nat):Prop:=∀(x y:Nat) (w:World),x<18446744073709551616->y<18446744073709551616->
 Calls prog F #[.float .f64 x,.float .f64 y] w λe w'=>∃z,e=.returned (.float .f64 z)/\z<18446744073709551616/\fb z=fb (c x y)/\Drawn w w'
def Made(n:Nat)(q:Nat->Nat)(w:World)(e:Ending)(w':World):Prop:=
 ∃zs:List Nat,e=.returned (.slice (some ⟨w.heap.size,0,none⟩) n n)/\FR w' w.heap.size zs/\(∀z∈zs,z<18446744073709551616)/\zs.length=n/\(∀k,k<n->fb (zs.getD k 0)=fb (q k))/\Kept 0 0 w w'
def Making(g n k:Nat)(q:Nat->Nat)(w W:World):Prop:=
 ∃zs:List Nat,FR W g zs/\(∀z∈zs,z<18446744073709551616)/\zs.length=n/\(∀j,j<k->fb (zs.getD j 0)=fb (q j))/\Kept 0 0 w W
theorem iF(w n q):Making w.heap.size n 0 q w (w.alloc (.cells (madeCells #[.float .f64 0] n) 38)):=
 ⟨_,FR.made w n,by intro z bz;rw[List.eq_of_mem_replicate bz];omega,by simp,λj hj=>by omega,ez 0 0 w _⟩
theorem Making.kept{W}(h:Making g n k q w W):Kept 0 0 w W:=by
 obtain⟨_,_,_,_,_,h⟩:=h;exact h
theorem Making.cell{W}(h:Making g n k q w W)(O:k<n):∃v,W.cell? ⟨g,k,none⟩=some v:=by
 obtain⟨zs,B,_,h3,_,_⟩:=h;exact⟨_,B.cell k xaa⟩
theorem Making.free{W}(h:Making g n k q w W):W.frozen? ⟨g,k,none⟩=false:=by
 obtain⟨zs,B,_⟩:=h;exact B.free k
theorem Making.drawn{W W'}(h:Making g n k q w W)(d:Drawn W W'):Making g n k q w W':=by
 obtain⟨zs,B,U,h3,a6,bK⟩:=h;exact⟨zs,B.keep (d.kept 0 0) yaa,U,h3,a6,bK.trans (d.kept 0 0)⟩
theorem Making.step{W}(h:Making g n k q w W)(aQ:w.heap.size<=g){z}(bz:z<18446744073709551616)(ao:fb z=fb (q k))(O:k<n):
  Making g n (k+1) q w (W.setCell ⟨g,k,none⟩ (.float .f64 z)):=by
 obtain⟨zs,B,U,h3,a6,bK⟩:=h;refine⟨_,B.set k z,?_,by rw[List.length_set];exact h3,?_,bK.new (eU (lo:=g) (hi:=g+1) W ⟨g,k,none⟩ _ yac) aQ⟩
 ·intro x ap;rcases List.mem_or_eq_of_mem_set ap with c|c
  ·exact U x c
  rw[c];exact bz
 intro j hj;rw[yah,List.getElem?_set];by_cases e:k=j
 ·subst e;rw[hI rfl,hI xaa];exact ao
 rw[hG e,<-yah];exact a6 j xaa
theorem Making.done{W}(h:Making w.heap.size n n q w W):Made n q w (.returned (hE w.heap.size n n)) W:=by
 obtain⟨zs,B,U,h3,a6,bK⟩:=h;exact⟨zs,rfl,B,U,h3,a6,bK⟩
theorem eQ{W}(h:Kept 0 0 w W){o}(aQ:g<w.heap.size){v}(ak:w.cell? ⟨g,o,none⟩=some v):W.cell? ⟨g,o,none⟩=some v:=by
 rw[h.cell (p:=⟨g,o,none⟩) aQ xaa];exact ak
theorem Cs(c)(bx:Fn2 86 c)(w n)(hn:n<=1000)(bZ ak c0)(xs:List Nat)(a9:bZ<w.heap.size)(bN:∀x∈xs,x<18446744073709551616)(H:∀k,k<n->w.cell? ⟨bZ,ak+k,none⟩=some (.float .f64 (xs.getD k 0)))(bG bV c1)(bc:List Nat)(N:bG<w.heap.size)(bJ:∀x∈bc,x<18446744073709551616)(am:∀k,k<n->w.cell? ⟨bG,bV+k,none⟩=some (.float .f64 (bc.getD k 0))):
  Calls prog 85 #[.slice (some ⟨bZ,ak,none⟩) n c0,.slice (some ⟨bG,bV,none⟩) n c1,.func (.func 86) #[] #[]] w λe J=>Made n (λk=>c (xs.getD k 0) (bc.getD k 0)) w e J:=by
 exact xaf
theorem Aa(c)(bx:Fn2 87 c)(w n)(hn:n<=1000)(bZ ak c0)(xs:List Nat)(a9:bZ<w.heap.size)(bN:∀x∈xs,x<18446744073709551616)(H:∀k,k<n->w.cell? ⟨bZ,ak+k,none⟩=some (.float .f64 (xs.getD k 0)))(bG bV c1)(bc:List Nat)(N:bG<w.heap.size)(bJ:∀x∈bc,x<18446744073709551616)(am:∀k,k<n->w.cell? ⟨bG,bV+k,none⟩=some (.float .f64 (bc.getD k 0))):
  Calls prog 85 #[.slice (some ⟨bZ,ak,none⟩) n c0,.slice (some ⟨bG,bV,none⟩) n c1,.func (.func 87) #[] #[]] w λe J=>Made n (λk=>c (xs.getD k 0) (bc.getD k 0)) w e J:=by
 exact xaf
theorem Ab(c)(bx:Fn2 88 c)(w n)(hn:n<=1000)(bZ ak c0)(xs:List Nat)(a9:bZ<w.heap.size)(bN:∀x∈xs,x<18446744073709551616)(H:∀k,k<n->w.cell? ⟨bZ,ak+k,none⟩=some (.float .f64 (xs.getD k 0)))(bG bV c1)(bc:List Nat)(N:bG<w.heap.size)(bJ:∀x∈bc,x<18446744073709551616)(am:∀k,k<n->w.cell? ⟨bG,bV+k,none⟩=some (.float .f64 (bc.getD k 0))):
  Calls prog 85 #[.slice (some ⟨bZ,ak,none⟩) n c0,.slice (some ⟨bG,bV,none⟩) n c1,.func (.func 88) #[] #[]] w λe J=>Made n (λk=>c (xs.getD k 0) (bc.getD k 0)) w e J:=by
 exact xaf
theorem Ct(c)(bx:Fn2 89 c)(w n)(hn:n<=1000)(bZ ak c0)(xs:List Nat)(a9:bZ<w.heap.size)(bN:∀x∈xs,x<18446744073709551616)(H:∀k,k<n->w.cell? ⟨bZ,ak+k,none⟩=some (.float .f64 (xs.getD k 0)))(bG bV c1)(bc:List Nat)(N:bG<w.heap.size)(bJ:∀x∈bc,x<18446744073709551616)(am:∀k,k<n->w.cell? ⟨bG,bV+k,none⟩=some (.float .f64 (bc.getD k 0))):
  Calls prog 85 #[.slice (some ⟨bZ,ak,none⟩) n c0,.slice (some ⟨bG,bV,none⟩) n c1,.func (.func 89) #[] #[]] w λe J=>Made n (λk=>c (xs.getD k 0) (bc.getD k 0)) w e J:=by
 exact xaf
theorem vV(c)(bx:Fn2 92 c)(w n)(hn:n<=1000)(bZ ak c0)(xs:List Nat)(a9:bZ<w.heap.size)(bN:∀x∈xs,x<18446744073709551616)(H:∀k,k<n->w.cell? ⟨bZ,ak+k,none⟩=some (.float .f64 (xs.getD k 0)))(bG bV c1)(bc:List Nat)(N:bG<w.heap.size)(bJ:∀x∈bc,x<18446744073709551616)(am:∀k,k<n->w.cell? ⟨bG,bV+k,none⟩=some (.float .f64 (bc.getD k 0))):
  Calls prog 85 #[.slice (some ⟨bZ,ak,none⟩) n c0,.slice (some ⟨bG,bV,none⟩) n c1,.func (.func 92) #[] #[]] w λe J=>Made n (λk=>c (xs.getD k 0) (bc.getD k 0)) w e J:=by
 exact xaf
theorem vW(c)(bx:Fn1 91 c)(w n)(hn:n<=1000)(bZ ak c0)(xs:List Nat)(a9:bZ<w.heap.size)(bN:∀x∈xs,x<18446744073709551616)(H:∀k,k<n->w.cell? ⟨bZ,ak+k,none⟩=some (.float .f64 (xs.getD k 0))):
  Calls prog 90 #[.slice (some ⟨bZ,ak,none⟩) n c0,.func (.func 91) #[] #[]] w λe J=>Made n (λk=>c (xs.getD k 0)) w e J:=by
 exact xbb
theorem ED(c)(bx:Fn1 97 c)(w n)(hn:n<=1000)(bZ ak c0)(xs:List Nat)(a9:bZ<w.heap.size)(bN:∀x∈xs,x<18446744073709551616)(H:∀k,k<n->w.cell? ⟨bZ,ak+k,none⟩=some (.float .f64 (xs.getD k 0))):
  Calls prog 90 #[.slice (some ⟨bZ,ak,none⟩) n c0,.func (.func 97) #[] #[]] w λe J=>Made n (λk=>c (xs.getD k 0)) w e J:=by
 exact xbb
def iz(x y z:Nat):Nat:=if FloatKind.f64.format.order x 0==some .gt then y else z
theorem Ac(x y z w):Calls prog 94 #[.float .f64 x,.float .f64 y,.float .f64 z] w λe J=>e=.returned (.float .f64 (iz x y z))/\J=w:=by
 unfold iz;cases h:(FloatKind.f64.format.order x 0==some .gt)
 all_goals
  go_enter func94,ntmps94
  go_wp2
  go_ret
  exact⟨rfl,rfl⟩
theorem x6(w n)(hn:n<=1000)(bZ ak c0)(xs:List Nat)(a9:bZ<w.heap.size)(bN:∀x∈xs,x<18446744073709551616)(H:∀k,k<n->w.cell? ⟨bZ,ak+k,none⟩=some (.float .f64 (xs.getD k 0)))(bG bV c1)(bc:List Nat)(N:bG<w.heap.size)(bJ:∀x∈bc,x<18446744073709551616)(am:∀k,k<n->w.cell? ⟨bG,bV+k,none⟩=some (.float .f64 (bc.getD k 0)))(aC bO c2)(us:List Nat)(aD:aC<w.heap.size)(b5:∀x∈us,x<18446744073709551616)(an:∀k,k<n->w.cell? ⟨aC,bO+k,none⟩=some (.float .f64 (us.getD k 0))):
  Calls prog 93 #[.slice (some ⟨bZ,ak,none⟩) n c0,.slice (some ⟨bG,bV,none⟩) n c1,.slice (some ⟨aC,bO,none⟩) n c2,.func (.func 94) #[] #[]] w λe J=>Made n (λk=>iz (xs.getD k 0) (bc.getD k 0) (us.getD k 0)) w e J:=by
 have aw:=mP n w xaa;have aU:=iF w n (λk=>iz (xs.getD k 0) (bc.getD k 0) (us.getD k 0));generalize t:w.alloc (.cells (madeCells #[.float .f64 0] n) 38)=aG at aw aU;clear t;have bh:V (∀k,k<n->w.cell? ⟨bZ,ak+k,none⟩=some (.float .f64 (xs.getD k 0))):=H;have Q:V (∀x∈xs,x<18446744073709551616):=bN;clear H bN;have C1:V (∀k,k<n->w.cell? ⟨bG,bV+k,none⟩=some (.float .f64 (bc.getD k 0))):=am;have f:V (∀x∈bc,x<18446744073709551616):=bJ;clear am bJ;have ax:V (∀k,k<n->w.cell? ⟨aC,bO+k,none⟩=some (.float .f64 (us.getD k 0))):=an;have L2:V (∀x∈us,x<18446744073709551616):=b5;clear an b5;go_enter func93,ntmps93;go_wp2_with fail;clear aw;go_loopw [10,11,17] (λ_ _ i W=>∃k:Nat,k<=n/\i=hF k/\Making w.heap.size n k (λk=>iz (xs.getD k 0) (bc.getD k 0) (us.getD k 0)) w W) (λ_ _ i _=>n-(intOf i).toNat)
 case atStart=>exact⟨0,Nat.zero_le _,rfl,aU⟩
 case round=>
  obtain⟨k,O,rfl,C⟩:=hrel;clear aU;by_cases aB:k<n
  ·obtain⟨av,aL⟩:=C.cell aB;have m1:=C.free;have bw:=eQ C.kept a9 (bh.o k aB);have bg:V _:=fC Q.o k;have d1:=eQ C.kept N (C1.o k aB);have af:V _:=fC f.o k;have d2:=eQ C.kept aD (ax.o k aB);have a0:V _:=fC L2.o k;have ao:V (∀z,fb z=fb (iz (xs.getD k 0) (bc.getD k 0) (us.getD k 0))->fb z=fb ((λk=>iz (xs.getD k 0) (bc.getD k 0) (us.getD k 0)) k)):=λ_ h=>h;generalize xs.getD k 0=x at bw bg ao;generalize bc.getD k 0=y at d1 af ao;generalize us.getD k 0=u at d2 a0 ao;go_wp2_with fail
   have R:V (Making w.heap.size n (k+1) (λk=>iz (xs.getD k 0) (bc.getD k 0) (us.getD k 0)) w (wr.setCell ⟨w.heap.size,k,none⟩ (.float .f64 (iz x y u)))):=by
    refine C.step yad ?_ (ao.o _ rfl) aB;unfold iz;split
    ·exact af.o
    exact a0.o
   clear C;go_region_with (go_at_call 94;refine(Ac _ _ _ _).mono ?_;rintro e ag ⟨rfl,rfl⟩)
   all_goals
    go_wp2
    go_roundw;exact⟨k+1,by omega,by go_num,R.o.drawn ⟨1,rfl⟩⟩;simp[intOf];omega
  obtain rfl:k=n:=xaa;go_wp2;go_ret;exact C.done
theorem Bp:Fn2 86 (cop .add):=λx y w _ _=>(xX x y w).mono λ_ _ h=>⟨_,h.1,iB _ _ _ _,ie _ _ _ _,_,h.2⟩
theorem EE:Fn2 88 (cop .mul):=λx y w _ _=>(qY x y w).mono λ_ _ h=>⟨_,h.1,iB _ _ _ _,ie _ _ _ _,_,h.2⟩
theorem IF:Fn2 89 (cop .quo):=λx y w _ _=>(sD x y w).mono λ_ _ h=>⟨_,h.1,iB _ _ _ _,ie _ _ _ _,_,h.2⟩
theorem Cu(x y w):Calls prog 87 #[.float .f64 x,.float .f64 y] w λe J=>e=.returned (.float .f64 (fop .sub x y w))/\J=w.drewN (fnd .sub x y):=by
 have B:=@xV prog;have U:=vS;go_enter func87,ntmps87;go_wp2;go_ret;exact⟨rfl,rfl⟩
theorem EF:Fn2 87 (cop .sub):=λx y w _ _=>(Cu x y w).mono λ_ _ h=>⟨_,h.1,iB _ _ _ _,ie _ _ _ _,_,h.2⟩
def jp(x y:Nat):Nat:=if FloatKind.f64.format.order x y==some .gt then x else y
theorem Ad:Fn2 92 jp:=by
 intro x y w ap bS;unfold jp;cases h:(FloatKind.f64.format.order x y==some .gt)
 ·go_enter func92,ntmps92;go_wp2;go_ret;exact⟨_,rfl,bS,rfl,0,rfl⟩
 go_enter func92,ntmps92;go_wp2;go_ret;exact⟨_,rfl,ap,rfl,0,rfl⟩
theorem uy(b w):(Op.unary .neg (.float .f64 b)).run prog w=.ok (.float .f64 (Op.negFloat .f64 b)) w:=rfl
theorem vX{b}(h:b<18446744073709551616):Op.negFloat .f64 b<18446744073709551616:=by
 obtain⟨s,r,av,rfl⟩:=jB b h;rw[Bm s av];exact Ev av
theorem Ae:Fn1 91 (Op.negFloat .f64):=by
 intro x w ap;have B:=uy;go_enter func91,ntmps91;go_wp2;go_ret;exact⟨_,rfl,vX ap,rfl,0,rfl⟩
theorem LY:Fn1 97 qh:=λx w ap=>(ID x w ap).mono λ_ _ h=>by
 obtain⟨y,B,U,h3,m,a6⟩:=h
 exact⟨y,B,h3,U,m,a6⟩
theorem vY(w)(x n:Nat)(ap:x<18446744073709551616)(hn:n<=1000):
  Calls prog 84 #[.float .f64 x,hF n] w λe J=>Made n (λ_=>x) w e J:=by
 have aw:=mP n w xaa;have aU:=iF w n (λ_=>x);generalize t:w.alloc (.cells (madeCells #[.float .f64 0] n) 38)=aG at aw aU;clear t;go_enter func84,ntmps84;go_wp2_with fail;clear aw;go_loopw [6,11] (λ_ i W=>∃k:Nat,k<=n/\i=hF k/\Making w.heap.size n k (λ_=>x) w W) (λ_ i _=>n-(intOf i).toNat)
 case atStart=>exact⟨0,Nat.zero_le _,rfl,aU⟩
 case round=>
  obtain⟨k,O,rfl,C⟩:=hrel;clear aU;by_cases aB:k<n
  ·obtain⟨av,aL⟩:=C.cell aB;have m1:=C.free;have R:V _:=C.step yad ap rfl aB;clear C;exact xao
  obtain rfl:k=n:=xaa;go_wp2;go_ret;exact C.done
theorem EG(w n p x)(ap:x<18446744073709551616)(aF:p<n):
  Made n (λk=>if k=p then x else 0) w (.returned (hE w.heap.size n n)) ((w.alloc (.cells (madeCells #[.float .f64 0] n) 38)).setCell ⟨w.heap.size,p,none⟩ (.float .f64 x)):=by
 have h:=(FR.made w n).set p x;refine⟨_,rfl,h,?_,by simp,?_,(ez 0 0 w _).new (eU _ _ _ yac) yad⟩
 ·intro y bS;rcases List.mem_or_eq_of_mem_set bS with c|c
  ·rw[List.eq_of_mem_replicate c];omega
  rw[c];exact ap
 intro k O;rw[yah,List.getElem?_set];by_cases e:p=k
 ·subst e;rw[hI rfl,hI (by simpa using aF)];show fb x=fb (if p=p then x else 0);rw[hI rfl]
 rw[hG e,List.getElem?_replicate,hI O];show fb 0=fb (if k=p then x else 0);rw[hG (λc=>e c.symm)]
theorem LZ(w)(x p n:Nat)(ap:x<18446744073709551616)(hn:n<=1000)(aF:p<n):
  Calls prog 96 #[.float .f64 x,hF p,hF n] w λe J=>Made n (λk=>if k=p then x else 0) w e J:=by
 have aw:=mP n w xaa;have f:=FR.made w n;have R:=EG w n p x ap aF;have c1:=f.cell p (by simpa using aF);have c2:=f.free p;clear f;generalize t:w.alloc (.cells (madeCells #[.float .f64 0] n) 38)=aG at aw c1 c2 R;clear t;obtain⟨zs,bo,(R1:V _),(R2:V _),(R3:V _),(aI:V _),(bA:V _)⟩:=R;clear bo;go_enter func96,ntmps96;go_wp2;go_ret;exact⟨zs,rfl,R1.o,R2.o,R3.o,aI.o,bA.o⟩
def kT:List Nat->Nat
 |[]=>0
 |x::xs=>xs.foldl (cop .add) x
theorem Cv(xs y)(h:xs≠[]):kT (xs++[y])=cop .add (kT xs) y:=by
 cases xs with
 |nil=>exact absurd rfl h
 |cons x r=>simp[kT,List.foldl_append]
theorem oT(xs:List Nat)(k)(ai:0<k)(O:k<xs.length):kT (xs.take (k+1))=cop .add (kT (xs.take k)) (xs.getD k 0):=by
 rw[yat O,Cv _ _ (by intro c;rcases List.take_eq_nil_iff.1 c with c|c;omega;rw[c]at O;simp at O)];rw[yah,yal O];rfl
theorem qj(xs:List Nat)(h:0<xs.length):kT (xs.take 1)=xs.getD 0 0:=by
 cases xs with
 |nil=>simp at h
 |cons x r=>rfl
theorem PJ(w n)(hn:n<=1000)(ai:1<=n)(g o c xs)(ap:xs.length=n)(ak:n<=c)(ca:∀x∈xs,x<18446744073709551616)(f:∀k,k<n->w.cell? ⟨g,o+k,none⟩=some (.float .f64 (xs.getD k 0))):
  Calls prog 95 #[.slice (some ⟨g,o,none⟩) n c,.func (.func 86) #[] #[]] w λe J=>∃z,e=.returned (.float .f64 z)/\z<18446744073709551616/\fb z=fb (kT xs)/\Drawn w J:=by
 have l:V (∀k,k<n->w.cell? ⟨g,o+k,none⟩=some (.float .f64 (xs.getD k 0))):=f;have m:V (∀x∈xs,x<18446744073709551616):=ca;have bu:V (xs.length=n):=ap;have c0:=f 0 xaa;rw[Nat.add_zero]at c0;have bN:V _:=fC ca 0;have aW:V (fb (xs.getD 0 0)=fb (kT (xs.take 1))):=by rw[qj xs xaa];rfl
 clear f ca ap;generalize xs.getD 0 0=bI at c0 bN aW;by_cases B:n=1
 ·subst B;have af:xs.take 1=xs:=yao (hT bu.o);rw[af]at aW;clear af;go_enter func95,ntmps95;go_wp2_with fail
  all_goals
   refine wp_loop_rounds 1 ?_
   rw[rounds_succ]
   go_wp2
   go_ret
   exact⟨bI,rfl,bN.o,aW.o,Drawn.refl _⟩
 have X:¬c=1:=xaa;have G:((n-1:Nat):Int)=(n:Int)-1:=xaa;go_enter func95,ntmps95;go_wp2_with fail;clear G;go_loopw [5,7,14] (λs _ i W=>∃(k z:Nat),k+1<=n/\i=hF k/\s=.float .f64 z/\z<18446744073709551616/\V (fb z=fb (kT (xs.take (k+1))))/\Drawn w W) (λ_ _ i _=>n-(intOf i).toNat)
 case atStart=>exact⟨0,bI,by omega,rfl,rfl,bN.o,aW,Drawn.refl _⟩
 case round=>
  obtain⟨k,z,O,rfl,rfl,bz,ae,aY⟩:=hrel;by_cases aB:k+1<n
  ·have bw:wr.cell? ⟨g,o+1+k,none⟩=some (.float .f64 (xs.getD (k+1) 0)):=by rw[aY.cell,show o+1+k=o+(k+1) by omega];exact l.o (k+1) aB
   have bJ:V _:=fC m.o (k+1)
   have ce:V (∀j,fb j=fb (cop .add z (xs.getD (k+1) 0))->fb j=fb (kT (xs.take (k+1+1)))):=by
    intro j h;rw[h,oT xs (k+1) xaa (hR bu.o aB)];congr 1;exact ib .add ae.o rfl
   generalize xs.getD (k+1) 0=y at bw bJ ce;have aN:(k:Int)<((n-1:Nat):Int):=xaa;go_wp2_with fail;refine(Bp _ _ _ bz bJ.o).mono ?_;rintro e ag ⟨j,rfl,ad,r,aQ⟩;have R:V _:=ce.o j r;clear r;go_wp2;go_roundw;exact⟨k+1,j,by omega,by go_num,rfl,ad,R,aY.trans aQ⟩;simp[intOf];omega
  have bZ:k+1=n:=xaa
  have R:V (fb z=fb (kT xs)):=by
   have:=ae.o;rw[bZ,yao (hT bu.o)]at this;exact this
  have aN:((n-1:Nat):Int)<=(k:Int):=xaa;clear bZ;go_wp2;go_ret;exact⟨z,rfl,bz,R.o,aY⟩
