import Derived.Test.YtcagphgmfbjneaaGreatP02
namespace Go.Proofs.Z
open Tryz
set_option maxRecDepth 1000000
set_option maxHeartbeats 0
open Go.RowKit Flt
attribute[local go_sem] eE eD eC
variable{g n k:Nat}{q:Nat->Nat}{w:World}
def Fn1(F:Nat)(c:Nat->Nat):Prop:=∀(x:Nat) (w:World),x<18446744073709551616->
 Calls prog F #[.float .f64 x] w λe w'=>∃z,e=.returned (.float .f64 z)/\z<18446744073709551616/\fb z=fb (c x)/\Drawn w w'
def Fn2(F:Nat)(c:Nat->Nat->Nat):Prop:=∀(x y:Nat) (w:World),x<18446744073709551616->y<18446744073709551616->
 Calls prog F #[.float .f64 x,.float .f64 y] w λe w'=>∃z,e=.returned (.float .f64 z)/\z<18446744073709551616/\fb z=fb (c x y)/\Drawn w w'
def Made(n:Nat)(q:Nat->Nat)(w:World)(e:Ending)(w':World):Prop:=
 ∃zs:List Nat,e=.returned (.slice (some ⟨w.heap.size,0,none⟩) n n)/\FR w' w.heap.size zs/\(∀z∈zs,z<18446744073709551616)/\zs.length=n/\(∀k,k<n->fb (zs.getD k 0)=fb (q k))/\Kept 0 0 w w'
def Making(g n k:Nat)(q:Nat->Nat)(w W:World):Prop:=
 ∃zs:List Nat,FR W g zs/\(∀z∈zs,z<18446744073709551616)/\zs.length=n/\(∀j,j<k->fb (zs.getD j 0)=fb (q j))/\Kept 0 0 w W
theorem lM(w n q):Making w.heap.size n 0 q w (w.alloc (.cells (madeCells #[.float .f64 0] n) 45)):=
 ⟨_,FR.made w n,by intro z a5;rw[List.eq_of_mem_replicate a5];omega,by simp,λj hj=>by omega,eA 0 0 w _⟩
theorem Making.kept{W}(h:Making g n k q w W):Kept 0 0 w W:=by
 obtain⟨_,_,_,_,_,h⟩:=h;exact h
theorem Making.cell{W}(h:Making g n k q w W)(O:k<n):∃v,W.cell? ⟨g,k,none⟩=some v:=by
 obtain⟨zs,F,_,h3,_,_⟩:=h;exact⟨_,F.cell k xaa⟩
theorem Making.free{W}(h:Making g n k q w W):W.frozen? ⟨g,k,none⟩=false:=by
 obtain⟨zs,F,_⟩:=h;exact F.free k
theorem Making.drawn{W H}(h:Making g n k q w W)(d:Drawn W H):Making g n k q w H:=by
 obtain⟨zs,F,h2,h3,h4,bK⟩:=h;exact⟨_,F.keep (d.kept 0 0) yaa,h2,h3,h4,bK.trans (d.kept 0 0)⟩
theorem Making.step{W}(h:Making g n k q w W)(aK:w.heap.size<=g){z}(a5:z<18446744073709551616)(aA:fb z=fb (q k))(O:k<n):
  Making g n (k+1) q w (W.setCell ⟨g,k,none⟩ (.float .f64 z)):=by
 obtain⟨zs,F,h2,h3,h4,bK⟩:=h;refine⟨_,F.set k z,?_,by rw[List.length_set];exact h3,?_,bK.new (eU W _ _ yac) aK⟩
 ·intro x ap;rcases List.mem_or_eq_of_mem_set ap with c|c
  ·exact h2 x c
  rw[c];exact a5
 intro j hj;rw[yai,List.getElem?_set];by_cases e:k=j
 ·subst e;rw[h7 rfl,h7 xaa];exact aA
 rw[h6 e,<-yai];exact h4 j xaa
theorem Making.done{W}(h:Making w.heap.size n n q w W):Made n q w (.returned (h0 w.heap.size n n)) W:=by
 obtain⟨zs,F,h2,h3,h4,bK⟩:=h;exact⟨_,rfl,F,h2,h3,h4,bK⟩
variable{w:World}{n br c0 c1 bQ t b6 ak:Nat}{cg a1:Option Addr}{xs ys:List Nat}
theorem FS.el{W lo hi a}(f:FS w lo hi a n xs)(h:k<n)(q:Kept 0 0 w W):∃g o,a=some ⟨g,o,none⟩/\W.cell? ⟨g,o+k,none⟩=some (.float .f64 (xs.getD k 0)):=by
 obtain⟨g,o,e,_,_,F,h2⟩:=f.at_.resolve_left xaa;exact⟨g,o,e,iI q F (h2 k h)⟩
theorem zn{c}(b0:Fn2 br c)(ag:n<=1000)(bN:FS w bQ t cg n xs)(f1:FS w b6 ak a1 n ys)(bI:br=165\/br=166\/br=167\/br=168\/br=171):
  Calls prog 164 #[.slice cg n c0,.slice a1 n c1,.func (.func br) #[] #[]] w λe B=>Made n (λk=>c (xs.getD k 0) (ys.getD k 0)) w e B:=by
 have ao:=ry n w xaa;have au:V _:=lM w n (λk=>c (xs.getD k 0) (ys.getD k 0));have l:V _:=h5 bN f1;have aD:V _:=b0;clear bN f1 b0;generalize w.alloc _=aH at ao au;rcases bI with rfl|rfl|rfl|rfl|rfl
 all_goals
  go_enter func164,ntmps164
  go_wp2_with fail
  clear ao
  go_loopw [8,9,15] (λ_ _ i W=>∃k:Nat,k<=n/\i=h1 k/\V (Making w.heap.size n k (λk=>c (xs.getD k 0) (ys.getD k 0)) w W)) (λ_ _ i _=>n-(intOf i).toNat)
  case atStart=>exact⟨0,yae,rfl,au⟩
  case round=>
   obtain⟨k,O,rfl,bJ⟩:=hrel
   clear au
   by_cases hlt:k<n
   ·obtain⟨aw,cF⟩:=Making.cell bJ.o hlt
    have m1:=Making.free bJ.o
    obtain⟨az,ed,rfl,bR⟩:=l.o.1.el hlt (Making.kept bJ.o)
    obtain⟨b5,ch,rfl,aM⟩:=l.o.2.el hlt (Making.kept bJ.o)
    have bf:V _:=λw=>aD.o _ _ w (gh l.o.1.lt k) (gh l.o.2.lt k)
    have HQ:V (∀z,z<18446744073709551616->fb z=fb _->∀W,Drawn _ W->_/\_/\_):=λz a5 aA W d=>have h:=Making.drawn bJ.o d;h5 (Making.cell h hlt) (h5 (Making.free h) (Making.step h yad a5 aA hlt))
    generalize xs.getD k 0=x at bR bf HQ
    generalize ys.getD k 0=y at aM bf HQ
    clear bJ
    go_wp2_with fail
    refine yaj (bf.o _) ?_
    rintro e am ⟨z,rfl,a5,T,bx⟩
    obtain⟨⟨ba,bl⟩,m3,R⟩:=HQ.o z a5 T _ bx
    have R:V _:=R
    clear bx T
    go_wp2
    go_roundw;exact⟨k+1,by omega,by go_num,R⟩;simp[intOf];omega
   ·obtain rfl:k=n:=xaa
    go_wp2
    go_ret
    exact Making.done bJ.o
theorem MQ{c}(b0:Fn1 br c)(ag:n<=1000)(bN:FS w bQ t cg n xs)(bI:br=170\/br=176):
  Calls prog 169 #[.slice cg n c0,.func (.func br) #[] #[]] w λe B=>Made n (λk=>c (xs.getD k 0)) w e B:=by
 have ao:=ry n w xaa;have au:V _:=lM w n (λk=>c (xs.getD k 0));have l:V _:=bN;have aD:V _:=b0;clear bN b0;generalize w.alloc _=aH at ao au;rcases bI with rfl|rfl
 all_goals
  go_enter func169,ntmps169
  go_wp2_with fail
  clear ao
  go_loopw [6,7,13] (λ_ _ i W=>∃k:Nat,k<=n/\i=h1 k/\V (Making w.heap.size n k (λk=>c (xs.getD k 0)) w W)) (λ_ _ i _=>n-(intOf i).toNat)
  case atStart=>exact⟨0,yae,rfl,au⟩
  case round=>
   obtain⟨k,O,rfl,bJ⟩:=hrel
   clear au
   by_cases hlt:k<n
   ·obtain⟨aw,cF⟩:=Making.cell bJ.o hlt
    have m1:=Making.free bJ.o
    obtain⟨az,ed,rfl,bR⟩:=l.o.el hlt (Making.kept bJ.o)
    have bf:V _:=λw=>aD.o _ w (gh l.o.lt k)
    have HQ:V (∀z,z<18446744073709551616->fb z=fb _->∀W,Drawn _ W->_/\_/\_):=λz a5 aA W d=>have h:=Making.drawn bJ.o d;h5 (Making.cell h hlt) (h5 (Making.free h) (Making.step h yad a5 aA hlt))
    generalize xs.getD k 0=x at bR bf HQ
    clear bJ
    go_wp2_with fail
    refine yaj (bf.o _) ?_
    rintro e am ⟨z,rfl,a5,T,bx⟩
    obtain⟨⟨ba,bl⟩,m3,R⟩:=HQ.o z a5 T _ bx
    have R:V _:=R
    clear bx T
    go_wp2
    go_roundw;exact⟨k+1,by omega,by go_num,R⟩;simp[intOf];omega
   ·obtain rfl:k=n:=xaa
    go_wp2
    go_ret
    exact Making.done bJ.o
