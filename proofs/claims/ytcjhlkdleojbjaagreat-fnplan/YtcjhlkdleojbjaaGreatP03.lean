import Derived.Test.YtcjhlkdleojbjaaGreatP02
namespace Go.Proofs.Z
open Tryz
set_option maxRecDepth 1000000
set_option maxHeartbeats 0
open Go.RowKit Flt
attribute[local go_sem] eF eE eD
variable{g n k:Nat}{q:Nat->Nat}{w:World}
def Fn1(F:Nat)(c:Nat->Nat):Prop:=∀(x:Nat) (w:World),x<18446744073709551616->
 Calls prog F #[.float .f64 x] w λe w'=>∃z,e=.returned (.float .f64 z)/\z<18446744073709551616/\fb z=fb (c x)/\Drawn w w'
def Fn2(F:Nat)(c:Nat->Nat->Nat):Prop:=∀(x y:Nat) (w:World),x<18446744073709551616->y<18446744073709551616->
 Calls prog F #[.float .f64 x,.float .f64 y] w λe w'=>∃z,e=.returned (.float .f64 z)/\z<18446744073709551616/\fb z=fb (c x y)/\Drawn w w'
def Made(n:Nat)(q:Nat->Nat)(w:World)(e:Ending)(w':World):Prop:=
 ∃zs:List Nat,e=.returned (.slice (some ⟨w.heap.size,0,none⟩) n n)/\FR w' w.heap.size zs/\(∀z∈zs,z<18446744073709551616)/\zs.length=n/\(∀k,k<n->fb (zs.getD k 0)=fb (q k))/\Kept 0 0 w w'
def Making(g n k:Nat)(q:Nat->Nat)(w W:World):Prop:=
 ∃zs:List Nat,FR W g zs/\(∀z∈zs,z<18446744073709551616)/\zs.length=n/\(∀j,j<k->fb (zs.getD j 0)=fb (q j))/\Kept 0 0 w W
theorem lz(w n q):Making w.heap.size n 0 q w (w.alloc (.cells (madeCells #[.float .f64 0] n) 57)):=
 ⟨_,FR.made w n,by intro z bv;rw[List.eq_of_mem_replicate bv];omega,by simp,λj hj=>by omega,ez 0 0 w _⟩
theorem Making.kept{W}(h:Making g n k q w W):Kept 0 0 w W:=by
 obtain⟨_,_,_,_,_,h⟩:=h;exact h
theorem Making.cell{W}(h:Making g n k q w W)(O:k<n):∃v,W.cell? ⟨g,k,none⟩=some v:=by
 obtain⟨zs,F,_,h3,_,_⟩:=h;exact⟨_,F.cell k xaa⟩
theorem Making.free{W}(h:Making g n k q w W):W.frozen? ⟨g,k,none⟩=false:=by
 obtain⟨zs,F,_⟩:=h;exact F.free k
theorem Making.drawn{W I}(h:Making g n k q w W)(d:Drawn W I):Making g n k q w I:=by
 obtain⟨zs,F,N,h3,a6,bF⟩:=h;exact⟨_,F.keep (d.kept 0 0) yaa,N,h3,a6,bF.trans (d.kept 0 0)⟩
theorem Making.step{W}(h:Making g n k q w W)(aJ:w.heap.size<=g){z}(bv:z<18446744073709551616)(ap:fb z=fb (q k))(O:k<n):
  Making g n (k+1) q w (W.setCell ⟨g,k,none⟩ (.float .f64 z)):=by
 obtain⟨zs,F,N,h3,a6,bF⟩:=h;refine⟨_,F.set k z,?_,by rw[List.length_set];exact h3,?_,bF.new (eR W _ _ yac) aJ⟩
 ·intro x an;rcases List.mem_or_eq_of_mem_set an with c|c
  ·exact N x c
  rw[c];exact bv
 intro j hj;rw[yai,List.getElem?_set];by_cases e:k=j
 ·subst e;rw[hD rfl,hD xaa];exact ap
 rw[hC e,<-yai];exact a6 j xaa
theorem Making.done{W}(h:Making w.heap.size n n q w W):Made n q w (.returned (hz w.heap.size n n)) W:=by
 obtain⟨zs,F,N,h3,a6,bF⟩:=h;exact⟨_,rfl,F,N,h3,a6,bF⟩
variable{w:World}{n bg c0 c1 bB aO b8 bb:Nat}{b0 a1:Option Addr}{xs bJ:List Nat}
theorem FS.el{W lo hi a}(f:FS w lo hi a n xs)(h:k<n)(q:Kept 0 0 w W):∃g o,a=some ⟨g,o,none⟩/\W.cell? ⟨g,o+k,none⟩=some (.float .f64 (xs.getD k 0)):=by
 obtain⟨g,o,e,_,_,F,N⟩:=f.at_.resolve_left xaa;exact⟨g,o,e,iD q F (N k h)⟩
theorem yE{c}(aX:Fn2 bg c)(ad:n<=1000)(bG:FS w bB aO b0 n xs)(f1:FS w b8 bb a1 n bJ)(bC:bg=167\/bg=168\/bg=169\/bg=170\/bg=173):
  Calls prog 166 #[.slice b0 n c0,.slice a1 n c1,.func (.func bg) #[] #[]] w λe B=>Made n (λk=>c (xs.getD k 0) (bJ.getD k 0)) w e B:=by
 have am:=qR n w xaa;have ao:E _:=lz w n (λk=>c (xs.getD k 0) (bJ.getD k 0));have l:E _:=hB bG f1;have HF:E _:=aX;clear bG f1 aX;generalize w.alloc _=aA at am ao;rcases bC with rfl|rfl|rfl|rfl|rfl
 all_goals
  go_enter func166,ntmps166
  go_wp2_with fail
  clear am
  go_loopw [8,9,15] (λ_ _ i W=>∃k:Nat,k<=n/\i=hA k/\E (Making w.heap.size n k (λk=>c (xs.getD k 0) (bJ.getD k 0)) w W)) (λ_ _ i _=>n-(intOf i).toNat)
  case atStart=>exact⟨0,yae,rfl,ao⟩
  case round=>
   obtain⟨k,O,rfl,bx⟩:=hrel
   clear ao
   by_cases aG:k<n
   ·obtain⟨aD,ci⟩:=Making.cell bx.o aG
    have m1:=Making.free bx.o
    obtain⟨bP,d7,rfl,bS⟩:=l.o.1.el aG (Making.kept bx.o)
    obtain⟨aq,cn,rfl,aH⟩:=l.o.2.el aG (Making.kept bx.o)
    have HC:E _:=λw=>HF.o _ _ w (gI l.o.1.lt k) (gI l.o.2.lt k)
    have bY:E (∀z,z<18446744073709551616->fb z=fb _->∀W,Drawn _ W->_/\_/\_):=λz bv ap W d=>have h:=Making.drawn bx.o d;hB (Making.cell h aG) (hB (Making.free h) (Making.step h yad bv ap aG))
    generalize xs.getD k 0=x at bS HC bY
    generalize bJ.getD k 0=y at aH HC bY
    clear bx
    go_wp2_with fail
    refine yaj (HC.o _) ?_
    rintro e ag ⟨z,rfl,bv,aN,bl⟩
    obtain⟨⟨a5,b7⟩,m3,H⟩:=bY.o z bv aN _ bl
    have H:E _:=H
    clear bl aN
    go_wp2
    go_roundw;exact⟨k+1,by omega,by go_num,H⟩;simp[intOf];omega
   ·obtain rfl:k=n:=xaa
    go_wp2
    go_ret
    exact Making.done bx.o
theorem ML{c}(aX:Fn1 bg c)(ad:n<=1000)(bG:FS w bB aO b0 n xs)(bC:bg=172\/bg=178):
  Calls prog 171 #[.slice b0 n c0,.func (.func bg) #[] #[]] w λe B=>Made n (λk=>c (xs.getD k 0)) w e B:=by
 have am:=qR n w xaa;have ao:E _:=lz w n (λk=>c (xs.getD k 0));have l:E _:=bG;have HF:E _:=aX;clear bG aX;generalize w.alloc _=aA at am ao;rcases bC with rfl|rfl
 all_goals
  go_enter func171,ntmps171
  go_wp2_with fail
  clear am
  go_loopw [6,7,13] (λ_ _ i W=>∃k:Nat,k<=n/\i=hA k/\E (Making w.heap.size n k (λk=>c (xs.getD k 0)) w W)) (λ_ _ i _=>n-(intOf i).toNat)
  case atStart=>exact⟨0,yae,rfl,ao⟩
  case round=>
   obtain⟨k,O,rfl,bx⟩:=hrel
   clear ao
   by_cases aG:k<n
   ·obtain⟨aD,ci⟩:=Making.cell bx.o aG
    have m1:=Making.free bx.o
    obtain⟨bP,d7,rfl,bS⟩:=l.o.el aG (Making.kept bx.o)
    have HC:E _:=λw=>HF.o _ w (gI l.o.lt k)
    have bY:E (∀z,z<18446744073709551616->fb z=fb _->∀W,Drawn _ W->_/\_/\_):=λz bv ap W d=>have h:=Making.drawn bx.o d;hB (Making.cell h aG) (hB (Making.free h) (Making.step h yad bv ap aG))
    generalize xs.getD k 0=x at bS HC bY
    clear bx
    go_wp2_with fail
    refine yaj (HC.o _) ?_
    rintro e ag ⟨z,rfl,bv,aN,bl⟩
    obtain⟨⟨a5,b7⟩,m3,H⟩:=bY.o z bv aN _ bl
    have H:E _:=H
    clear bl aN
    go_wp2
    go_roundw;exact⟨k+1,by omega,by go_num,H⟩;simp[intOf];omega
   ·obtain rfl:k=n:=xaa
    go_wp2
    go_ret
    exact Making.done bx.o
def io(x y z:Nat):Nat:=if FloatKind.f64.format.order x 0==some .gt then y else z
theorem AN(x y z w):Calls prog 175 #[.float .f64 x,.float .f64 y,.float .f64 z] w λe B=>e=.returned (.float .f64 (io x y z))/\B=w:=by
 unfold io;cases h:(FloatKind.f64.format.order x 0==some .gt)
 all_goals
  go_enter func175,ntmps175
  go_wp2
  go_ret
  exact⟨rfl,rfl⟩
theorem yG(w n)(ad:n<=1000)(bP d7 c0)(xs:List Nat)(bE:bP<w.heap.size)(bB:∀x∈xs,x<18446744073709551616)(bq:∀k,k<n->w.cell? ⟨bP,d7+k,none⟩=some (.float .f64 (xs.getD k 0)))(aq cn c1)(bJ:List Nat)(R:aq<w.heap.size)(b8:∀x∈bJ,x<18446744073709551616)(aw:∀k,k<n->w.cell? ⟨aq,cn+k,none⟩=some (.float .f64 (bJ.getD k 0)))(aN bT c2)(us:List Nat)(aS:aN<w.heap.size)(cg:∀x∈us,x<18446744073709551616)(ak:∀k,k<n->w.cell? ⟨aN,bT+k,none⟩=some (.float .f64 (us.getD k 0))):
  Calls prog 174 #[.slice (some ⟨bP,d7,none⟩) n c0,.slice (some ⟨aq,cn,none⟩) n c1,.slice (some ⟨aN,bT,none⟩) n c2,.func (.func 175) #[] #[]] w λe B=>Made n (λk=>io (xs.getD k 0) (bJ.getD k 0) (us.getD k 0)) w e B:=by
 have am:=qR n w xaa;have aW:=lz w n (λk=>io (xs.getD k 0) (bJ.getD k 0) (us.getD k 0));generalize bA:w.alloc (.cells (madeCells #[.float .f64 0] n) 57)=aA at am aW;clear bA;have C0:E (∀k,k<n->w.cell? ⟨bP,d7+k,none⟩=some (.float .f64 (xs.getD k 0))):=bq;have gf:E (∀x∈xs,x<18446744073709551616):=bB;clear bq bB;have C1:E (∀k,k<n->w.cell? ⟨aq,cn+k,none⟩=some (.float .f64 (bJ.getD k 0))):=aw;have F:E (∀x∈bJ,x<18446744073709551616):=b8;clear aw b8;have Q:E (∀k,k<n->w.cell? ⟨aN,bT+k,none⟩=some (.float .f64 (us.getD k 0))):=ak;have L2:E (∀x∈us,x<18446744073709551616):=cg;clear ak cg;go_enter func174,ntmps174;go_wp2_with fail;clear am;go_loopw [10,11,17] (λ_ _ i W=>∃k:Nat,k<=n/\i=hA k/\Making w.heap.size n k (λk=>io (xs.getD k 0) (bJ.getD k 0) (us.getD k 0)) w W) (λ_ _ i _=>n-(intOf i).toNat)
 case atStart=>exact⟨0,yae,rfl,aW⟩
 case round=>
  obtain⟨k,O,rfl,bx⟩:=hrel;clear aW;by_cases aG:k<n
  ·obtain⟨aD,ci⟩:=bx.cell aG;have m1:=bx.free;have bS:=iD bx.kept bE (C0.o k aG);have b9:E _:=gI gf.o k;have aH:=iD bx.kept R (C1.o k aG);have ae:E _:=gI F.o k;have bf:=iD bx.kept aS (Q.o k aG);have a9:E _:=gI L2.o k;have ap:E (∀z,fb z=fb (io (xs.getD k 0) (bJ.getD k 0) (us.getD k 0))->fb z=fb ((λk=>io (xs.getD k 0) (bJ.getD k 0) (us.getD k 0)) k)):=λ_ h=>h;generalize xs.getD k 0=x at bS b9 ap;generalize bJ.getD k 0=y at aH ae ap;generalize us.getD k 0=u at bf a9 ap;go_wp2_with fail
   have H:E (Making w.heap.size n (k+1) (λk=>io (xs.getD k 0) (bJ.getD k 0) (us.getD k 0)) w (wr.setCell ⟨w.heap.size,k,none⟩ (.float .f64 (io x y u)))):=by
    refine bx.step yad ?_ (ap.o _ rfl) aG;unfold io;split
    ·exact ae.o
    exact a9.o
   clear bx;go_region_with (go_at_call 175;refine(AN _ _ _ _).mono ?_;rintro e ag ⟨rfl,rfl⟩)
   all_goals
    go_wp2
    go_roundw;exact⟨k+1,by omega,by go_num,H.o.drawn ⟨1,rfl⟩⟩;simp[intOf];omega
  obtain rfl:k=n:=xaa;go_wp2;go_ret;exact bx.done
theorem B5:Fn2 167 (cop .add):=λx y w _ _=>(yB x y w).mono λ_ _ h=>⟨_,h.1,gJ _ _ _ _,gl _ _ _ _,_,h.2⟩
theorem FA:Fn2 169 (cop .mul):=λx y w _ _=>(qS x y w).mono λ_ _ h=>⟨_,h.1,gJ _ _ _ _,gl _ _ _ _,_,h.2⟩
theorem JP:Fn2 170 (cop .quo):=λx y w _ _=>(sN x y w).mono λ_ _ h=>⟨_,h.1,gJ _ _ _ _,gl _ _ _ _,_,h.2⟩
theorem De(x y w):Calls prog 168 #[.float .f64 x,.float .f64 y] w λe B=>e=.returned (.float .f64 (fop .sub x y w))/\B=w.drewN (fnd .sub x y):=by
 have F:=@yw prog;have N:=wo;go_enter func168,ntmps168;go_wp2;go_ret;exact⟨rfl,rfl⟩
theorem FC:Fn2 168 (cop .sub):=λx y w _ _=>(De x y w).mono λ_ _ h=>⟨_,h.1,gJ _ _ _ _,gl _ _ _ _,_,h.2⟩
def jF(x y:Nat):Nat:=if FloatKind.f64.format.order x y==some .gt then x else y
theorem AO:Fn2 173 jF:=by
 intro x y w an bN;unfold jF;cases h:(FloatKind.f64.format.order x y==some .gt)
 ·go_enter func173,ntmps173;go_wp2;go_ret;exact⟨_,rfl,bN,rfl,0,rfl⟩
 go_enter func173,ntmps173;go_wp2;go_ret;exact⟨_,rfl,an,rfl,0,rfl⟩
theorem lF(b w):(Op.unary .neg (.float .f64 b)).run prog w=.ok (.float .f64 (Op.negFloat .f64 b)) w:=rfl
theorem mW{b}(h:b<18446744073709551616):Op.negFloat .f64 b<18446744073709551616:=by
 grind[mT,MK,Ng]
theorem AP:Fn1 172 (Op.negFloat .f64):=by
 intro x w an;have F:=lF;go_enter func172,ntmps172;go_wp2;go_ret;exact⟨_,rfl,mW an,rfl,0,rfl⟩
theorem Nk:Fn1 178 rW:=λx w an=>(JO x w an).mono λ_ _ h=>by
 obtain⟨y,F,N,h3,m,a6⟩:=h
 exact⟨y,F,h3,N,m,a6⟩
theorem ww(w)(x n:Nat)(an:x<18446744073709551616)(ad:n<=1000):
  Calls prog 165 #[.float .f64 x,hA n] w λe B=>Made n (λ_=>x) w e B:=by
 have am:=qR n w xaa;have aW:=lz w n (λ_=>x);generalize bA:w.alloc _=aA at am aW;clear bA;go_enter func165,ntmps165;go_wp2_with fail;clear am;go_loopw [6,11] (λ_ i W=>∃k:Nat,k<=n/\i=hA k/\Making w.heap.size n k (λ_=>x) w W) (λ_ i _=>n-(intOf i).toNat)
 case atStart=>grind
 case round=>
  obtain⟨k,O,rfl,bx⟩:=hrel;clear aW;by_cases aG:k<n
  ·obtain⟨aD,ci⟩:=bx.cell aG;have m1:=bx.free;have H:E _:=bx.step yad an rfl aG;clear bx;go_wp2;go_roundw;exact⟨k+1,by omega,by go_num,H.o⟩;simp[intOf];omega
  obtain rfl:k=n:=xaa;go_wp2;go_ret;exact bx.done
theorem FD(w n p x)(an:x<18446744073709551616)(aM:p<n):
  Made n (λk=>if k=p then x else 0) w (.returned (hz w.heap.size n n)) ((w.alloc (.cells (madeCells #[.float .f64 0] n) 57)).setCell ⟨w.heap.size,p,none⟩ (.float .f64 x)):=by
 have h:=(FR.made w n).set p x;refine⟨_,rfl,h,?_,by simp,?_,(ez 0 0 w _).new (eR _ _ _ yac) yad⟩
 ·grind
 grind
theorem Nl(w)(x p n:Nat)(an:x<18446744073709551616)(ad:n<=1000)(aM:p<n):
  Calls prog 177 #[.float .f64 x,hA p,hA n] w λe B=>Made n (λk=>if k=p then x else 0) w e B:=by
 have am:=qR n w xaa;have l:=FR.made w n;have H:=FD w n p x an aM;have c1:=l.cell p (by grind);have c2:=l.free p;clear l;generalize bA:w.alloc _=aA at am c1 c2 H;clear bA;obtain⟨zs,br,(R1:E _),(R2:E _),(R3:E _),(s:E _),(ce:E _)⟩:=H;clear br;go_enter func177,ntmps177;go_wp2;go_ret;exact⟨_,rfl,R1.o,R2.o,R3.o,s.o,ce.o⟩
def kX:List Nat->Nat
 |[]=>0
 |x::xs=>xs.foldl (cop .add) x
theorem Df(xs y)(h:xs≠[]):kX (xs++[y])=cop .add (kX xs) y:=by
 cases xs<;>simp_all[kX]<;>grind
theorem oN(xs:List Nat)(k)(al:0<k)(O:k<xs.length):kX (xs.take (k+1))=cop .add (kX (xs.take k)) (xs.getD k 0):=by
 rw[yau O,Df _ _ (by grind[List.take_eq_nil_iff])];simp_all
theorem pW(xs:List Nat)(h:0<xs.length):kX (xs.take 1)=xs.getD 0 0:=by
 cases xs with
 |nil=>simp at h
 |cons x r=>rfl
theorem Qo(w n)(ad:n<=1000)(al:1<=n)(g o c xs)(an:xs.length=n)(ah:n<=c)(co:∀x∈xs,x<18446744073709551616)(f:∀k,k<n->w.cell? ⟨g,o+k,none⟩=some (.float .f64 (xs.getD k 0))):
  Calls prog 176 #[.slice (some ⟨g,o,none⟩) n c,.func (.func 167) #[] #[]] w λe B=>∃z,e=.returned (.float .f64 z)/\z<18446744073709551616/\fb z=fb (kX xs)/\Drawn w B:=by
 have m:E _:=f;have p:E _:=co;have ar:E _:=an;have c0:=f 0 xaa;rw[Nat.add_zero]at c0;have bB:E _:=gI co 0;have aZ:E (fb (xs.getD 0 0)=fb (kX (xs.take 1))):=by rw[pW _ xaa];rfl
 clear f co an;generalize xs.getD 0 0=bz at c0 bB aZ;by_cases F:n=1
 ·subst F;have ae:xs.take 1=xs:=yap (hN ar.o);rw[ae]at aZ;clear ae;go_enter func176,ntmps176;go_wp2_with fail
  all_goals
   refine wp_loop_rounds 1 ?_
   rw[rounds_succ]
   go_wp2
   go_ret
   exact⟨_,rfl,bB.o,aZ.o,Drawn.refl _⟩
 have X:¬c=1:=xaa;have l:(n-1:Nat)=(n:Int)-1:=xaa;go_enter func176,ntmps176;go_wp2_with fail;clear l;go_loopw [5,7,14] (λs _ i W=>∃(k z:Nat),k+1<=n/\i=hA k/\s=.float .f64 z/\z<18446744073709551616/\E (fb z=fb (kX (xs.take (k+1))))/\Drawn w W) (λ_ _ i _=>n-(intOf i).toNat)
 case atStart=>exact⟨0,_,by omega,rfl,rfl,bB.o,aZ,Drawn.refl _⟩
 case round=>
  obtain⟨k,z,O,rfl,rfl,bv,au,bl⟩:=hrel;by_cases aG:k+1<n
  ·have bS:wr.cell? ⟨g,o+1+k,none⟩=some (.float .f64 (xs.getD (k+1) 0)):=by rw[bl.cell,show o+1+k=o+(k+1) by omega];exact m.o _ aG
   have b8:E _:=gI p.o (k+1)
   have bx:E (∀j,fb j=fb (cop .add z (xs.getD (k+1) 0))->fb j=fb (kX (xs.take (k+1+1)))):=by
    intro j h;rw[h,oN _ _ xaa (hL ar.o aG)];congr 1;exact gG _ au.o rfl
   generalize xs.getD _ 0=y at bS b8 bx;have cc:(k:Int)<(n-1:Nat):=xaa;go_wp2_with fail;refine(B5 _ _ _ bv b8.o).mono ?_;rintro e ag ⟨j,rfl,a2,aN,bA⟩;have H:E _:=bx.o _ aN;clear aN;go_wp2;go_roundw;exact⟨k+1,j,by omega,by go_num,rfl,a2,H,bl.trans bA⟩;simp[intOf];omega
  have bP:k+1=n:=xaa
  have H:E (fb z=fb (kX xs)):=by
   have:=au.o;rw[bP,yap (hN ar.o)]at this;exact this
  have cc:(n-1:Nat)<=(k:Int):=xaa;clear bP;go_wp2;go_ret;exact⟨z,rfl,bv,H.o,bl⟩
