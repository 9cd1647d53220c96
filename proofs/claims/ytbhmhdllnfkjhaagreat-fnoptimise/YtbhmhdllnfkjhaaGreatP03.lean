import Derived.Test.YtbhmhdllnfkjhaaGreatP02
namespace Go.Proofs.Z
open Tryz
set_option maxRecDepth 1000000
set_option maxHeartbeats 0
open Go.RowKit Flt
attribute[local go_sem] eG eE eD
variable{g n k:Nat}{q:Nat->Nat}{w:World}
def Fn1(F:Nat)(c:Nat->Nat):Prop:=∀(x:Nat) (w:World),x<18446744073709551616->
 Calls prog F #[.float .f64 x] w λe w'=>∃z,e=.returned (.float .f64 z)/\z<18446744073709551616/\fb z=fb (c x)/\Drawn w w'
def Fn2(F:Nat)(c:Nat->Nat->Nat):Prop:=∀(x y:Nat) (w:World),x<18446744073709551616->y<18446744073709551616->
 Calls prog F #[.float .f64 x,.float .f64 y] w λe w'=>∃z,e=.returned (.float .f64 z)/\z<18446744073709551616/\fb z=fb (c x y)/\Drawn w w'
def Made(n:Nat)(q:Nat->Nat)(w:World)(e:Ending)(w':World):Prop:=
 ∃zs:List Nat,e=.returned (.slice (some ⟨w.heap.size,0,none⟩) n n)/\FR w' w.heap.size zs/\(∀z∈zs,z<18446744073709551616)/\zs.length=n/\(∀k,k<n->fb (zs.getD k 0)=fb (q k))/\Kept 0 0 w w'
def Making(g n k:Nat)(q:Nat->Nat)(w W:World):Prop:=
 ∃zs:List Nat,FR W g zs/\(∀z∈zs,z<18446744073709551616)/\zs.length=n/\(∀j,j<k->fb (zs.getD j 0)=fb (q j))/\Kept 0 0 w W
theorem lS(w n q):Making w.heap.size n 0 q w (w.alloc (.cells (madeCells #[.float .f64 0] n) 50)):=
 ⟨_,FR.made w n,by intro z bi;rw[List.eq_of_mem_replicate bi];omega,by simp,λj hj=>by omega,ez 0 0 w _⟩
theorem Making.kept{W}(h:Making g n k q w W):Kept 0 0 w W:=by
 obtain⟨_,_,_,_,_,h⟩:=h;exact h
theorem Making.cell{W}(h:Making g n k q w W)(N:k<n):∃v,W.cell? ⟨g,k,none⟩=some v:=by
 obtain⟨zs,B,_,h3,_,_⟩:=h;exact⟨_,B.cell k xaa⟩
theorem Making.free{W}(h:Making g n k q w W):W.frozen? ⟨g,k,none⟩=false:=by
 obtain⟨zs,B,_⟩:=h;exact B.free k
theorem Making.drawn{W W'}(h:Making g n k q w W)(d:Drawn W W'):Making g n k q w W':=by
 obtain⟨zs,B,J,h3,a0,bz⟩:=h;exact⟨_,B.keep (d.kept 0 0) yaa,J,h3,a0,bz.trans (d.kept 0 0)⟩
theorem Making.step{W}(h:Making g n k q w W)(aR:w.heap.size<=g){z}(bi:z<18446744073709551616)(am:fb z=fb (q k))(N:k<n):
  Making g n (k+1) q w (W.setCell ⟨g,k,none⟩ (.float .f64 z)):=by
 obtain⟨zs,B,J,h3,a0,bz⟩:=h;refine⟨_,B.set k z,?_,by rw[List.length_set];exact h3,?_,bz.new (eP W _ _ yac) aR⟩
 ·intro x ak;rcases List.mem_or_eq_of_mem_set ak with c|c
  ·exact J x c
  rw[c];exact bi
 intro j hj;rw[yai,List.getElem?_set];by_cases e:k=j
 ·subst e;rw[hG rfl,hG xaa];exact am
 rw[hF e,<-yai];exact a0 j xaa
theorem Making.done{W}(h:Making w.heap.size n n q w W):Made n q w (.returned (hC w.heap.size n n)) W:=by
 obtain⟨zs,B,J,h3,a0,bz⟩:=h;exact⟨_,rfl,B,J,h3,a0,bz⟩
theorem kB{W}(h:Kept 0 0 w W){o}(aR:g<w.heap.size){v}(ad:w.cell? ⟨g,o,none⟩=some v):W.cell? ⟨g,o,none⟩=some v:=by
 rw[h.cell aR xaa];exact ad
variable{w:World}{n F c0 c1 aJ ai b1 bM:Nat}{bV a1:Option Addr}{xs bT:List Nat}
theorem FS.el{W lo hi a}(f:FS w lo hi a n xs)(h:k<n)(q:Kept 0 0 w W):∃g o,a=some ⟨g,o,none⟩/\W.cell? ⟨g,o+k,none⟩=some (.float .f64 (xs.getD k 0)):=by
 obtain⟨g,o,e,_,_,B,J⟩:=f.at_.resolve_left xaa;exact⟨g,o,e,kB q B (J k h)⟩
theorem e2{c}(bp:Fn2 F c)(hn:n<=1000)(bG:FS w aJ ai bV n xs)(f1:FS w b1 bM a1 n bT)(bw:F=101\/F=102\/F=103\/F=104\/F=107):
  Calls prog 100 #[.slice bV n c0,.slice a1 n c1,.func (.func F) #[] #[]] w λe I=>Made n (λk=>c (xs.getD k 0) (bT.getD k 0)) w e I:=by
 have aq:=th n w xaa;have au:V _:=lS w n (λk=>c (xs.getD k 0) (bT.getD k 0));have f:V _:=hE bG f1;have aI:V _:=bp;clear bG f1 bp;generalize w.alloc _=aO at aq au;rcases bw with rfl|rfl|rfl|rfl|rfl
 all_goals
  go_enter func100,ntmps100
  go_wp2_with fail
  clear aq
  go_loopw [8,9,15] (λ_ _ i W=>∃k:Nat,k<=n/\i=hD k/\V (Making w.heap.size n k (λk=>c (xs.getD k 0) (bT.getD k 0)) w W)) (λ_ _ i _=>n-(intOf i).toNat)
  case atStart=>exact⟨0,yae,rfl,au⟩
  case round=>
   obtain⟨k,N,rfl,C⟩:=hrel
   clear au
   by_cases aC:k<n
   ·obtain⟨bF,H⟩:=Making.cell C.o aC
    have m1:=Making.free C.o
    obtain⟨cy,eu,rfl,bu⟩:=f.o.1.el aC (Making.kept C.o)
    obtain⟨bA,ch,rfl,d1⟩:=f.o.2.el aC (Making.kept C.o)
    have bc:V _:=λw=>aI.o _ _ w (fR f.o.1.lt k) (fR f.o.2.lt k)
    have bZ:V (∀z,z<18446744073709551616->fb z=fb _->∀W,Drawn _ W->_/\_/\_):=λz bi am W d=>have h:=Making.drawn C.o d;hE (Making.cell h aC) (hE (Making.free h) (Making.step h yad bi am aC))
    generalize xs.getD k 0=x at bu bc bZ
    generalize bT.getD k 0=y at d1 bc bZ
    clear C
    go_wp2_with fail
    refine yaj (bc.o _) ?_
    rintro e ag ⟨z,rfl,bi,u,a5⟩
    obtain⟨⟨a9,b2⟩,m3,U⟩:=bZ.o z bi u _ a5
    have U:V _:=U
    clear a5 u
    go_wp2
    go_roundw;exact⟨k+1,by omega,by go_num,U⟩;simp[intOf];omega
   ·obtain rfl:k=n:=xaa
    go_wp2
    go_ret
    exact Making.done C.o
theorem e1{c}(bp:Fn1 F c)(hn:n<=1000)(bG:FS w aJ ai bV n xs)(bw:F=106\/F=112):
  Calls prog 105 #[.slice bV n c0,.func (.func F) #[] #[]] w λe I=>Made n (λk=>c (xs.getD k 0)) w e I:=by
 have aq:=th n w xaa;have au:V _:=lS w n (λk=>c (xs.getD k 0));have f:V _:=bG;have aI:V _:=bp;clear bG bp;generalize w.alloc _=aO at aq au;rcases bw with rfl|rfl
 all_goals
  go_enter func105,ntmps105
  go_wp2_with fail
  clear aq
  go_loopw [6,7,13] (λ_ _ i W=>∃k:Nat,k<=n/\i=hD k/\V (Making w.heap.size n k (λk=>c (xs.getD k 0)) w W)) (λ_ _ i _=>n-(intOf i).toNat)
  case atStart=>exact⟨0,yae,rfl,au⟩
  case round=>
   obtain⟨k,N,rfl,C⟩:=hrel
   clear au
   by_cases aC:k<n
   ·obtain⟨bF,H⟩:=Making.cell C.o aC
    have m1:=Making.free C.o
    obtain⟨cy,eu,rfl,bu⟩:=f.o.el aC (Making.kept C.o)
    have bc:V _:=λw=>aI.o _ w (fR f.o.lt k)
    have bZ:V (∀z,z<18446744073709551616->fb z=fb _->∀W,Drawn _ W->_/\_/\_):=λz bi am W d=>have h:=Making.drawn C.o d;hE (Making.cell h aC) (hE (Making.free h) (Making.step h yad bi am aC))
    generalize xs.getD k 0=x at bu bc bZ
    clear C
    go_wp2_with fail
    refine yaj (bc.o _) ?_
    rintro e ag ⟨z,rfl,bi,u,a5⟩
    obtain⟨⟨a9,b2⟩,m3,U⟩:=bZ.o z bi u _ a5
    have U:V _:=U
    clear a5 u
    go_wp2
    go_roundw;exact⟨k+1,by omega,by go_num,U⟩;simp[intOf];omega
   ·obtain rfl:k=n:=xaa
    go_wp2
    go_ret
    exact Making.done C.o
def iH(x y z:Nat):Nat:=if FloatKind.f64.format.order x 0==some .gt then y else z
theorem Az(x y z w):Calls prog 109 #[.float .f64 x,.float .f64 y,.float .f64 z] w λe I=>e=.returned (.float .f64 (iH x y z))/\I=w:=by
 unfold iH;cases h:(FloatKind.f64.format.order x 0==some .gt)
 all_goals
  go_enter func109,ntmps109
  go_wp2
  go_ret
  exact⟨rfl,rfl⟩
theorem yw(w n)(hn:n<=1000)(cy eu c0)(xs:List Nat)(bH:cy<w.heap.size)(aJ:∀x∈xs,x<18446744073709551616)(an:∀k,k<n->w.cell? ⟨cy,eu+k,none⟩=some (.float .f64 (xs.getD k 0)))(bA ch c1)(bT:List Nat)(O:bA<w.heap.size)(b1:∀x∈bT,x<18446744073709551616)(aj:∀k,k<n->w.cell? ⟨bA,ch+k,none⟩=some (.float .f64 (bT.getD k 0)))(ap bO c2)(us:List Nat)(ax:ap<w.heap.size)(ce:∀x∈us,x<18446744073709551616)(ah:∀k,k<n->w.cell? ⟨ap,bO+k,none⟩=some (.float .f64 (us.getD k 0))):
  Calls prog 108 #[.slice (some ⟨cy,eu,none⟩) n c0,.slice (some ⟨bA,ch,none⟩) n c1,.slice (some ⟨ap,bO,none⟩) n c2,.func (.func 109) #[] #[]] w λe I=>Made n (λk=>iH (xs.getD k 0) (bT.getD k 0) (us.getD k 0)) w e I:=by
 have aq:=th n w xaa;have aZ:=lS w n (λk=>iH (xs.getD k 0) (bT.getD k 0) (us.getD k 0));generalize cB:w.alloc (.cells (madeCells #[.float .f64 0] n) 50)=aO at aq aZ;clear cB;have g0:V (∀k,k<n->w.cell? ⟨cy,eu+k,none⟩=some (.float .f64 (xs.getD k 0))):=an;have gp:V (∀x∈xs,x<18446744073709551616):=aJ;clear an aJ;have C1:V (∀k,k<n->w.cell? ⟨bA,ch+k,none⟩=some (.float .f64 (bT.getD k 0))):=aj;have J:V (∀x∈bT,x<18446744073709551616):=b1;clear aj b1;have v:V (∀k,k<n->w.cell? ⟨ap,bO+k,none⟩=some (.float .f64 (us.getD k 0))):=ah;have L2:V (∀x∈us,x<18446744073709551616):=ce;clear ah ce;go_enter func108,ntmps108;go_wp2_with fail;clear aq;go_loopw [10,11,17] (λ_ _ i W=>∃k:Nat,k<=n/\i=hD k/\Making w.heap.size n k (λk=>iH (xs.getD k 0) (bT.getD k 0) (us.getD k 0)) w W) (λ_ _ i _=>n-(intOf i).toNat)
 case atStart=>exact⟨0,yae,rfl,aZ⟩
 case round=>
  obtain⟨k,N,rfl,C⟩:=hrel;clear aZ;by_cases aC:k<n
  ·obtain⟨bF,H⟩:=C.cell aC;have m1:=C.free;have bu:=kB C.kept bH (g0.o k aC);have bc:V _:=fR gp.o k;have d1:=kB C.kept O (C1.o k aC);have e1:V _:=fR J.o k;have d2:=kB C.kept ax (v.o k aC);have e2:V _:=fR L2.o k;have am:V (∀z,fb z=fb (iH (xs.getD k 0) (bT.getD k 0) (us.getD k 0))->fb z=fb ((λk=>iH (xs.getD k 0) (bT.getD k 0) (us.getD k 0)) k)):=λ_ h=>h;generalize xs.getD k 0=x at bu bc am;generalize bT.getD k 0=y at d1 e1 am;generalize us.getD k 0=u at d2 e2 am;go_wp2_with fail
   have U:V (Making w.heap.size n (k+1) (λk=>iH (xs.getD k 0) (bT.getD k 0) (us.getD k 0)) w (wr.setCell ⟨w.heap.size,k,none⟩ (.float .f64 (iH x y u)))):=by
    refine C.step yad ?_ (am.o _ rfl) aC;unfold iH;split
    ·exact e1.o
    exact e2.o
   clear C;go_region_with (go_at_call 109;refine(Az _ _ _ _).mono ?_;rintro e ag ⟨rfl,rfl⟩)
   all_goals
    go_wp2
    go_roundw;exact⟨k+1,by omega,by go_num,U.o.drawn ⟨1,rfl⟩⟩;simp[intOf];omega
  obtain rfl:k=n:=xaa;go_wp2;go_ret;exact C.done
theorem BL:Fn2 101 (cop .add):=λx y w _ _=>(yt x y w).mono λ_ _ h=>⟨_,h.1,gN _ _ _ _,gu _ _ _ _,_,h.2⟩
theorem Fa:Fn2 103 (cop .mul):=λx y w _ _=>(rp x y w).mono λ_ _ h=>⟨_,h.1,gN _ _ _ _,gu _ _ _ _,_,h.2⟩
theorem Jk:Fn2 104 (cop .quo):=λx y w _ _=>(tr x y w).mono λ_ _ h=>⟨_,h.1,gN _ _ _ _,gu _ _ _ _,_,h.2⟩
theorem CU(x y w):Calls prog 102 #[.float .f64 x,.float .f64 y] w λe I=>e=.returned (.float .f64 (fop .sub x y w))/\I=w.drewN (fnd .sub x y):=by
 have B:=@yp prog;have J:=wI;go_enter func102,ntmps102;go_wp2;go_ret;exact⟨rfl,rfl⟩
theorem Fb:Fn2 102 (cop .sub):=λx y w _ _=>(CU x y w).mono λ_ _ h=>⟨_,h.1,gN _ _ _ _,gu _ _ _ _,_,h.2⟩
def jU(x y:Nat):Nat:=if FloatKind.f64.format.order x y==some .gt then x else y
theorem AA:Fn2 107 jU:=by
 intro x y w ak bX;unfold jU;cases h:(FloatKind.f64.format.order x y==some .gt)
 ·go_enter func107,ntmps107;go_wp2;go_ret;exact⟨_,rfl,bX,rfl,0,rfl⟩
 go_enter func107,ntmps107;go_wp2;go_ret;exact⟨_,rfl,ak,rfl,0,rfl⟩
theorem uY(b w):(Op.unary .neg (.float .f64 b)).run prog w=.ok (.float .f64 (Op.negFloat .f64 b)) w:=rfl
theorem wL{b}(h:b<18446744073709551616):Op.negFloat .f64 b<18446744073709551616:=by
 obtain⟨s,r,av,rfl⟩:=jl b h;rw[ym s av];exact Je av
theorem AB:Fn1 106 (Op.negFloat .f64):=by
 intro x w ak;have B:=uY;go_enter func106,ntmps106;go_wp2;go_ret;exact⟨_,rfl,wL ak,rfl,0,rfl⟩
theorem My:Fn1 112 sB:=λx w ak=>(Jj x w ak).mono λ_ _ h=>by
 obtain⟨y,B,J,h3,m,a0⟩:=h
 exact⟨y,B,h3,J,m,a0⟩
theorem wM(w)(x n:Nat)(ak:x<18446744073709551616)(hn:n<=1000):
  Calls prog 99 #[.float .f64 x,hD n] w λe I=>Made n (λ_=>x) w e I:=by
 have aq:=th n w xaa;have aZ:=lS w n (λ_=>x);generalize cB:w.alloc _=aO at aq aZ;clear cB;go_enter func99,ntmps99;go_wp2_with fail;clear aq;go_loopw [6,11] (λ_ i W=>∃k:Nat,k<=n/\i=hD k/\Making w.heap.size n k (λ_=>x) w W) (λ_ i _=>n-(intOf i).toNat)
 case atStart=>exact⟨0,yae,rfl,aZ⟩
 case round=>
  obtain⟨k,N,rfl,C⟩:=hrel;clear aZ;by_cases aC:k<n
  ·obtain⟨bF,H⟩:=C.cell aC;have m1:=C.free;have U:V _:=C.step yad ak rfl aC;clear C;go_wp2;go_roundw;exact⟨k+1,by omega,by go_num,U.o⟩;simp[intOf];omega
  obtain rfl:k=n:=xaa;go_wp2;go_ret;exact C.done
theorem Fc(w n p x)(ak:x<18446744073709551616)(aK:p<n):
  Made n (λk=>if k=p then x else 0) w (.returned (hC w.heap.size n n)) ((w.alloc (.cells (madeCells #[.float .f64 0] n) 50)).setCell ⟨w.heap.size,p,none⟩ (.float .f64 x)):=by
 have h:=(FR.made w n).set p x;refine⟨_,rfl,h,?_,by simp,?_,(ez 0 0 w _).new (eP _ _ _ yac) yad⟩
 ·intro y bX;rcases List.mem_or_eq_of_mem_set bX with c|c
  ·rw[List.eq_of_mem_replicate c];omega
  rw[c];exact ak
 intro k N;rw[yai,List.getElem?_set];by_cases e:p=k
 ·subst e;rw[hG rfl,hG (by simpa using aK)];show fb x=fb (if p=p then x else 0);rw[hG rfl]
 rw[hF e,List.getElem?_replicate,hG N];show fb 0=fb (if k=p then x else 0);rw[hF (λc=>e c.symm)]
theorem Mz(w)(x p n:Nat)(ak:x<18446744073709551616)(hn:n<=1000)(aK:p<n):
  Calls prog 111 #[.float .f64 x,hD p,hD n] w λe I=>Made n (λk=>if k=p then x else 0) w e I:=by
 have aq:=th n w xaa;have c:=FR.made w n;have U:=Fc w n p x ak aK;have c1:=c.cell p (by simpa using aK);have c2:=c.free p;clear c;generalize cB:w.alloc _=aO at aq c1 c2 U;clear cB;obtain⟨zs,bm,(R1:V _),(R2:V _),(R3:V _),(z:V _),(cj:V _)⟩:=U;clear bm;go_enter func111,ntmps111;go_wp2;go_ret;exact⟨_,rfl,R1.o,R2.o,R3.o,z.o,cj.o⟩
def lI:List Nat->Nat
 |[]=>0
 |x::xs=>xs.foldl (cop .add) x
theorem CV(xs y)(h:xs≠[]):lI (xs++[y])=cop .add (lI xs) y:=by
 cases xs with
 |nil=>exact absurd rfl h
 |cons x r=>simp[lI,List.foldl_append]
theorem po(xs:List Nat)(k)(ae:0<k)(N:k<xs.length):lI (xs.take (k+1))=cop .add (lI (xs.take k)) (xs.getD k 0):=by
 rw[yau N,CV _ _ (by intro c;rcases List.take_eq_nil_iff.1 c with c|c;omega;rw[c]at N;simp at N)];rw[yai,yam N];rfl
theorem qy(xs:List Nat)(h:0<xs.length):lI (xs.take 1)=xs.getD 0 0:=by
 cases xs with
 |nil=>simp at h
 |cons x r=>rfl
theorem PY(w n)(hn:n<=1000)(ae:1<=n)(g o c xs)(ak:xs.length=n)(ad:n<=c)(b8:∀x∈xs,x<18446744073709551616)(f:∀k,k<n->w.cell? ⟨g,o+k,none⟩=some (.float .f64 (xs.getD k 0))):
  Calls prog 110 #[.slice (some ⟨g,o,none⟩) n c,.func (.func 101) #[] #[]] w λe I=>∃z,e=.returned (.float .f64 z)/\z<18446744073709551616/\fb z=fb (lI xs)/\Drawn w I:=by
 have l:V _:=f;have m:V _:=b8;have bn:V _:=ak;have c0:=f 0 xaa;rw[Nat.add_zero]at c0;have aJ:V _:=fR b8 0;have aT:V (fb (xs.getD 0 0)=fb (lI (xs.take 1))):=by rw[qy _ xaa];rfl
 clear f b8 ak;generalize xs.getD 0 0=bI at c0 aJ aT;by_cases B:n=1
 ·subst B;have e1:xs.take 1=xs:=yap (hR bn.o);rw[e1]at aT;clear e1;go_enter func110,ntmps110;go_wp2_with fail
  all_goals
   refine wp_loop_rounds 1 ?_
   rw[rounds_succ]
   go_wp2
   go_ret
   exact⟨_,rfl,aJ.o,aT.o,Drawn.refl _⟩
 have aA:¬c=1:=xaa;have cc:(n-1:Nat)=(n:Int)-1:=xaa;go_enter func110,ntmps110;go_wp2_with fail;clear cc;go_loopw [5,7,14] (λs _ i W=>∃(k z:Nat),k+1<=n/\i=hD k/\s=.float .f64 z/\z<18446744073709551616/\V (fb z=fb (lI (xs.take (k+1))))/\Drawn w W) (λ_ _ i _=>n-(intOf i).toNat)
 case atStart=>exact⟨0,_,by omega,rfl,rfl,aJ.o,aT,Drawn.refl _⟩
 case round=>
  obtain⟨k,z,N,rfl,rfl,bi,ar,a5⟩:=hrel;by_cases aC:k+1<n
  ·have bu:wr.cell? ⟨g,o+1+k,none⟩=some (.float .f64 (xs.getD (k+1) 0)):=by rw[a5.cell,show o+1+k=o+(k+1) by omega];exact l.o _ aC
   have b1:V _:=fR m.o (k+1)
   have bl:V (∀j,fb j=fb (cop .add z (xs.getD (k+1) 0))->fb j=fb (lI (xs.take (k+1+1)))):=by
    intro j h;rw[h,po _ _ xaa (hO bn.o aC)];congr 1;exact gl _ ar.o rfl
   generalize xs.getD _ 0=y at bu b1 bl;have aB:(k:Int)<(n-1:Nat):=xaa;go_wp2_with fail;refine(BL _ _ _ bi b1.o).mono ?_;rintro e ag ⟨j,rfl,aa,u,aV⟩;have U:V _:=bl.o _ u;clear u;go_wp2;go_roundw;exact⟨k+1,j,by omega,by go_num,rfl,aa,U,a5.trans aV⟩;simp[intOf];omega
  have b2:k+1=n:=xaa
  have U:V (fb z=fb (lI xs)):=by
   have:=ar.o;rw[b2,yap (hR bn.o)]at this;exact this
  have aB:(n-1:Nat)<=(k:Int):=xaa;clear b2;go_wp2;go_ret;exact⟨z,rfl,bi,U.o,a5⟩
def tv(op:Int):Nat:=if op=0\/op=1 then 0 else if op=2\/op=3\/op=4\/op=5\/op=7 then 2 else if op=8 then 3 else 1
theorem kX(op w)(ae:0<=op)(B:op<=13):Calls prog 48 #[hD op] w λe I=>e=.returned (hD (tv op:Nat))/\I=w:=by
 have h:op=0\/op=1\/op=2\/op=3\/op=4\/op=5\/op=6\/op=7\/op=8\/op=9\/op=10\/op=11\/op=12\/op=13:=xaa;clear ae B;rcases h with rfl|rfl|rfl|rfl|rfl|rfl|rfl|rfl|rfl|rfl|rfl|rfl|rfl|rfl
 all_goals
  go_enter func48,ntmps48
  go_wp2
  go_ret
  exact⟨rfl,rfl⟩
def uZ(op:Int):Bool:=decide ((2<=op/\op<=8)\/op=13)
theorem Fd(op w)(ae:0<=op)(B:op<=13):Calls prog 80 #[hD op] w λe I=>e=.returned (.bool (uZ op))/\I=w:=by
 have h:op=0\/op=1\/op=2\/op=3\/op=4\/op=5\/op=6\/op=7\/op=8\/op=9\/op=10\/op=11\/op=12\/op=13:=xaa;clear ae B;rcases h with rfl|rfl|rfl|rfl|rfl|rfl|rfl|rfl|rfl|rfl|rfl|rfl|rfl|rfl
 all_goals
  go_enter func80,ntmps80
  go_wp2
  go_ret
  exact⟨rfl,rfl⟩
def wN(op:Int)(x y z:Nat):Nat:=
 if op=2 then cop .add x y else if op=3 then cop .sub x y else if op=4 then cop .mul x y else if op=5 then cop .quo x y
 else if op=6 then Op.negFloat .f64 x else if op=7 then jU x y else if op=8 then iH x y z else sB x
theorem Fe(op x y z w)(ak:x<18446744073709551616)(bX:y<18446744073709551616)(bi:z<18446744073709551616)
  (h:op=2\/op=3\/op=4\/op=5\/op=6\/op=7\/op=8\/op=13):
  Calls prog 81 #[hD op,.float .f64 x,.float .f64 y,.float .f64 z] w λe I=>∃u,e=.returned (.float .f64 u)/\u<18446744073709551616/\fb u=fb (wN op x y z)/\Drawn w I:=by
 have f1:=@oq prog;have f2:=@yp prog;have f3:=@mg prog;have f:=@kK prog;have G:=uY;rcases h with rfl|rfl|rfl|rfl|rfl|rfl|rfl|rfl
 ·exact xdr
 ·exact xdr
 ·exact xdr
 ·exact xdr
 ·go_enter func81,ntmps81;go_wp2;go_ret;exact⟨_,rfl,wL ak,rfl,0,rfl⟩
 ·clear f1 f2 f3 f G;rw[show wN 7 x y z=jU x y from rfl];unfold jU;cases t:(FloatKind.f64.format.order x y==some .gt)
  ·exact xir
  go_enter func81,ntmps81;go_wp2;go_ret;exact⟨_,rfl,ak,rfl,0,rfl⟩
 ·clear f1 f2 f3 f G;rw[show wN 8 x y z=iH x y z from rfl];unfold iH;cases t:(FloatKind.f64.format.order x 0==some .gt)
  ·go_enter func81,ntmps81;go_wp2;go_ret;exact⟨_,rfl,bi,rfl,0,rfl⟩
  exact xir
 clear f1 f2 f3 f G;go_enter func81,ntmps81;go_wp2_with fail;refine(Jh _ _ ak).mono ?_;rintro e I ⟨u,rfl,B,J,m,rfl⟩;go_wp2;go_ret;exact⟨u,rfl,J,B,m,rfl⟩
def sI(n:Nat):Prop:=∀(w:World) (g o c:Nat) (xs:List Nat),xs.length=n->n<=c->(∀x∈xs,x<18446744073709551616)->(∀k,k<n->w.cell? ⟨g,o+k,none⟩=some (.float .f64 (xs.getD k 0)))->
 Calls prog 82 #[.slice (some ⟨g,o,none⟩) n c] w λe w'=>∃z,e=.returned (.float .f64 z)/\z<18446744073709551616/\fb z=fb (lI xs)/\Drawn w w'
theorem Jl:sI 1:=by
 intro w g o c xs ak ad b8 f;have c0:=f 0 xaa;rw[Nat.add_zero]at c0;have aJ:=fR b8 0
 have aT:V (fb (xs.getD 0 0)=fb (lI xs)):=by
  have:=qy xs xaa;rw[yap xaa]at this;rw[this];rfl
 clear f b8 ak;generalize xs.getD 0 0=bI at c0 aJ aT;go_enter func82,ntmps82;go_wp2;go_ret;exact⟨bI,rfl,aJ,aT.o,Drawn.refl _⟩
theorem Ff(n)(B:1<=n)(hn:n<1000)(Q:sI n):sI (n+1):=by
 intro w g o c xs ak ad b8 f;have f1:=@oq prog;have c0:=f n xaa;have aJ:=fR b8 n
 have G:lI xs=cop .add (lI (xs.take n)) (xs.getD n 0):=by
  have:=po xs n xaa xaa;rw[yap xaa]at this;exact this
 have au:V _:=G
 have a6:V (∀W,Drawn w W->Calls prog 82 #[.slice (some ⟨g,o,none⟩) n c] W λe I=>∃z,e=.returned (.float .f64 z)/\z<18446744073709551616/\fb z=fb (lI (xs.take n))/\Drawn W I):=λW bf=>
  Q W g o c (xs.take n) (by rw[List.length_take];omega) xaa (λx aq=>b8 x (List.mem_of_mem_take aq)) (λk N=>by
   rw[bf.cell,f k xaa]
   congr 2
   simp only[yai]
   rw[List.getElem?_take_of_lt N])
 clear G Q f b8 ak;generalize xs.getD n 0=y at c0 aJ au
 have j:∀m,Calls prog 82 #[.slice (some ⟨g,o,none⟩) n c] (w.drewN m) λe I=>∃z,e=.returned (.float .f64 z)/\z<18446744073709551616/\V (fb z=fb (lI (xs.take n)))/\Drawn w I:=λm=>
  (a6.o _ ⟨m,rfl⟩).mono λ_ _ h=>by obtain⟨z,B,J,h3,a0⟩:=h;exact⟨z,B,J,h3,Drawn.trans ⟨m,rfl⟩ a0⟩
 have S:∀ag,Drawn w ag->ag.cell? ⟨g,o+n,none⟩=some (.float .f64 y):=λag h=>hO h.cell c0
 have bJ:V _:=j;have i:V _:=S;clear a6 j S;have t:(((n:Int)+1)==1)=false:=yan xaa;have cT:n<=c:=xaa;have O:(n:Int)<=c:=xaa;have l:IntKind.i64.wrap (n:Int)=n:=by rw[IntKind.wrap_i64];omega
 go_enter func82,ntmps82;go_wp2_with fail;go_region_with (go_at_call 82;refine(bJ.o 1).mono ?_;rintro e ag ⟨z,rfl,bi,b7,a5⟩;have c2:=i.o ag a5)
 all_goals
  go_wp2
  go_ret
  refine⟨_,rfl,gN _ _ _ _,?_,?_⟩
  ·rw[gu,au.o]
   congr 1
   exact gl .add b7.o rfl
  ·exact a5.more _
theorem BM:∀n,1<=n->n<=1000->sI n
 |0,h,_=>by omega
 |1,_,_=>Jl
 |n+2,_,h=>Ff (n+1) xaa xaa (BM (n+1) xaa xaa)
theorem OT(w n)(B:1<=n)(hn:n<=1000){aJ ai bV c0 xs}(bG:FS w aJ ai bV n xs)(ad:n<=c0):
  Calls prog 82 #[.slice bV n c0] w λe I=>∃z,e=.returned (.float .f64 z)/\z<18446744073709551616/\fb z=fb (lI xs)/\Drawn w I:=by
 rcases bG.at_ with h|⟨g,o,rfl,_,_,b,k⟩
 ·omega
 exact BM n B hn w g o c0 xs bG.len ad bG.lt k
