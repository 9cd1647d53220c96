import Derived.Test.YtdpbpcnldpkljaaGreatP01
namespace Go.Proofs.Z
open Tryz
set_option maxRecDepth 1000000
set_option maxHeartbeats 0
section
open Go.RowKit Flt
variable {x lo y hi:Nat} {w w' a b c:World}
abbrev f64:Ieee.Format:=FloatKind.f64.format
theorem uH (d:Ieee.Datum):(d.order d !=some .eq)=d.isNaN:=by
 cases d with
 |number s m i=>simp[Ieee.Datum.order,Ieee.Datum.isNaN]
 |infinity s=>cases s<;>rfl
 |nan s t=>rfl
theorem vU (x:Nat):(FloatKind.f64.format.order x x !=some .eq)=(FloatKind.f64.format.read x).isNaN:=uH _
theorem lU (h:(f64.read x).isNaN=true):fb x=9221120237041090560:=by
 unfold fb;rw[vU,h];rfl
theorem lV (h:(f64.read x).isNaN=false):fb x=x:=by
 unfold fb;rw[vU,h];rfl
theorem Fc:(f64.read 9221120237041090560).isNaN=true:=xab
theorem yN (h:fb x=fb y):x=y\/((f64.read x).isNaN=true/\(f64.read y).isNaN=true):=by
 cases hx:(f64.read x).isNaN<;>cases hy:(f64.read y).isNaN
 ·rw[lV hx,lV hy] at h;exact .inl h
 ·rw[lV hx,lU hy] at h;rw[h,Fc] at hx;cases hx
 ·rw[lU hx,lV hy] at h;rw[<-h,Fc] at hy;cases hy
 ·exact .inr ⟨rfl,rfl⟩
theorem xg (hx:(f64.read x).isNaN=true)(hy:(f64.read y).isNaN=true):fb x=fb y:=by
 rw[lU hx,lU hy]
def cop (op:BinOp)(x y:Nat):Nat:=(floatBits op .f64 x y).getD 9221120237041090560
def fop (op:BinOp)(x y:Nat)(w:World):Nat:=
 (floatBits op .f64 x y).getD (Question.cut (.nanBits .f64 x y) (w.tape w.drawn (.nanBits .f64 x y)))
def fnd (op:BinOp)(x y:Nat):Nat:=if (floatBits op .f64 x y).isSome then 0 else 1
theorem vV (x y t:Nat):(f64.read (Question.cut (.nanBits .f64 x y) t)).isNaN=true/\Question.cut (.nanBits .f64 x y) t<18446744073709551616:=by
 simp only[Question.cut]
 obtain⟨k,hk,hlt⟩:∃k,(t/2)%(2 ^ 52-1)=k/\k<4503599627370495:=⟨_,rfl,Nat.mod_lt _ xab⟩
 rw[hk]
 rcases Nat.mod_two_eq_zero_or_one t with h|h
 ·rw[h]
  have e:0*2 ^ 63+9218868437227405312+1+k=W false (9218868437227405312+1+k):=by unfold W;simp
  exact xgh
 ·rw[h]
  have e:1*2 ^ 63+9218868437227405312+1+k=W true (9218868437227405312+1+k):=by unfold W;simp;omega
  exact xgh
theorem yP (op:BinOp)(x y:Nat)(w:World):fb (fop op x y w)=fb (cop op x y):=by
 unfold fop cop
 cases floatBits op .f64 x y with
 |none=>simp only[Option.getD_none];exact xg (vV x y _).1 Fc
 |some r=>rfl
theorem kO (op:BinOp)(x y:Nat)(w:World):fop op x y w<18446744073709551616:=by
 unfold fop
 cases h:floatBits op .f64 x y with
 |none=>simp only[Option.getD_none];exact(vV x y _).2
 |some r=>
  have:=floatBits_wf h
  simpa[Lit.wf] using this
section
variable {P:Program} (w:World)
theorem vW (op:BinOp)(ho:op=.add\/op=.sub\/op=.mul\/op=.quo)(t:TypeId)(x y:Nat):
  (binOp op t (.float .f64 x) (.float .f64 y)).run P w=.ok (.float .f64 (fop op x y w)) (w.drewN (fnd op x y)):=by
 cases h:floatBits op .f64 x y with
 |some r=>
  have e1:fop op x y w=r:=by unfold fop;rw[h];rfl
  have e2:fnd op x y=0:=by unfold fnd;rw[h];rfl
  rw[e1,e2,World.drewN_zero]
  exact run_float_arith w op t .f64 x y r h
 |none=>
  have e1:fop op x y w=Question.cut (.nanBits .f64 x y) (w.tape w.drawn (.nanBits .f64 x y)):=by unfold fop;rw[h];rfl
  have e2:fnd op x y=1:=by unfold fnd;rw[h];rfl
  rw[e1,e2]
  unfold floatBits at h
  rcases ho with rfl|rfl|rfl|rfl
  all_goals
   simp only at h
   simp[binOp,Op.floatArith,h,choose,Sem.run,Question.forced]
   rfl
theorem yR (t:TypeId)(x y:Nat):(binOp .mul t (.float .f64 x) (.float .f64 y)).run P w=.ok (.float .f64 (fop .mul x y w)) (w.drewN (fnd .mul x y)):=vW w .mul xac t x y
theorem mP (t:TypeId)(x y:Nat):(binOp .quo t (.float .f64 x) (.float .f64 y)).run P w=.ok (.float .f64 (fop .quo x y w)) (w.drewN (fnd .quo x y)):=vW w .quo xac t x y
end
theorem rz (w:World):(binOp .quo 33 (.float .f64 4607182418800017408) (.float .f64 0)).run prog w=.ok (.float .f64 9218868437227405312) w:=
 run_float_arith (P:=prog) w .quo 33 .f64 4607182418800017408 0 9218868437227405312 xab
theorem eA {P:Program}{a:Addr}{m:Mode}(k:FloatKind)(b:Nat):(store a (.float k b) m).run P w=stored P w a (.float k b) m:=run_store P w a _ m rfl
structure Kept (lo hi:Nat)(w w':World):Prop where
 os:w'.os=w.os
 tape:w'.tape=w.tape
 output:w'.output=w.output
 size:w.heap.size<=w'.heap.size
 block:∀k,k<w.heap.size->¬(lo<=k/\k<hi)->w'.heap[k]? =w.heap[k]?
theorem Kept.refl (lo hi:Nat)(w:World):Kept lo hi w w:=⟨rfl,rfl,rfl,yad,λ_ _ _=>rfl⟩
theorem Kept.trans (h:Kept lo hi a b)(k:Kept lo hi b c):Kept lo hi a c:=
 ⟨k.os.trans h.os,k.tape.trans h.tape,k.output.trans h.output,yan h.size k.size,λi hi' hn=>(k.block i (yaj hi' h.size) hn).trans (h.block i hi' hn)⟩
theorem Kept.mono {lo' hi':Nat}(h:Kept lo hi w w')(hs:∀k,k<w.heap.size->lo<=k/\k<hi->lo'<=k/\k<hi'):Kept lo' hi' w w':=
 ⟨h.os,h.tape,h.output,h.size,λk hk hn=>h.block k hk λc=>hn (hs k hk c)⟩
theorem Kept.new {l h':Nat}(h:Kept lo hi a b)(k:Kept l h' b c)(hl:a.heap.size<=l):Kept lo hi a c:=
 ⟨k.os.trans h.os,k.tape.trans h.tape,k.output.trans h.output,yan h.size k.size,λi hi' hn=>(k.block i (yaj hi' h.size) (λc=>by omega)).trans (h.block i hi' hn)⟩
theorem Kept.below (h:Kept 0 0 w w'):Below w.heap.size w w':=⟨h.os,h.tape,h.output,h.size,λk hk=>h.block k hk xaa⟩
theorem eK (lo hi:Nat)(w:World)(m:Nat):Kept lo hi w (w.drewN m):=⟨rfl,rfl,rfl,yad,λ_ _ _=>rfl⟩
theorem ez (lo hi:Nat)(w:World)(o:Obj):Kept lo hi w (w.alloc o):=⟨rfl,rfl,rfl,by simp,λk hk _=>Below.heap_alloc w o k hk⟩
theorem eL (w:World)(a:Addr)(v:Value)(h:lo<=a.block/\a.block<hi\/w.heap.size<=a.block):Kept lo hi w (w.setCell a v):=
 ⟨rfl,rfl,rfl,by simp,λk hk hn=>Below.heap_setCell w a v k (λe=>by subst e;omega)⟩
theorem Kept.cell (h:Kept lo hi w w'){p:Addr}(hp:p.block<w.heap.size)(hn:¬(lo<=p.block/\p.block<hi)):w'.cell? p=w.cell? p:=World.cell?_of_block (w:=w) (h.block p.block hp hn)
theorem Kept.frozen (h:Kept lo hi w w'){p:Addr}(hp:p.block<w.heap.size)(hn:¬(lo<=p.block/\p.block<hi)):w'.frozen? p=w.frozen? p:=World.frozen?_of_block (w:=w) (h.block p.block hp hn)
def Drawn (w w':World):Prop:=∃m,w'=w.drewN m
theorem Drawn.refl (w:World):Drawn w w:=⟨0,rfl⟩
theorem Drawn.more (h:Drawn w w')(n:Nat):Drawn w (w'.drewN n):=by
 obtain⟨m,rfl⟩:=h;exact⟨m+n,World.drewN_drewN ..⟩
theorem Drawn.cell (h:Drawn w w')(p:Addr):w'.cell? p=w.cell? p:=by obtain⟨m,rfl⟩:=h;rfl
theorem Drawn.kept (h:Drawn w w')(lo hi:Nat):Kept lo hi w w':=by obtain⟨m,rfl⟩:=h;exact eK lo hi w m
end
section
open Go.RowKit Flt
attribute [local go_sem] eD eB eA
variable {n:Int} {lo k hi:Nat} {xs:List Int} {a:Option Addr}
def lenB (n:Int):Bool:=decide (1<=n/\n<=1000)
theorem nC (h1:1<=n)(h2:n<=1000):lenB n=true:=decide_eq_true ⟨h1,h2⟩
theorem mw (h:¬(1<=n/\n<=1000)):lenB n=false:=yax h
theorem gO (n:Int)(w:World):Calls prog 59 #[.int .i64 n] w λe w'=>e=.returned (.bool (lenB n))/\w'=w:=by
 by_cases h1:1<=n
 ·by_cases h2:n<=1000
  ·rw[nC h1 h2]
   exact xgw
  ·rw[mw (λc=>h2 c.2)]
   have t:decide (n<=1000)=false:=yax h2
   exact xgw
 ·rw[mw (λc=>h1 c.1)]
  have t:decide (1<=n)=false:=yax h1
  exact xgw
def cnt (op:Int):Nat:=if op=6\/op=9\/op=10\/op=11\/op=12\/op=13 then 1 else if op=2\/op=3\/op=4\/op=5\/op=7 then 2 else if op=8 then 3 else 0
theorem oZ (op:Int):op=1\/op=2\/op=3\/op=4\/op=5\/op=6\/op=7\/op=8\/op=9\/op=10\/op=11\/op=12\/op=13\/(op≠1/\op≠2/\op≠3/\op≠4/\op≠5/\op≠6/\op≠7/\op≠8/\op≠9/\op≠10/\op≠11/\op≠12/\op≠13):=xaa
theorem rA (op:Int)(w:World):Calls prog 119 #[.int .i64 op] w λe w'=>e=.returned (.int .i64 (cnt op:Nat))/\w'=w:=by
 rcases oZ op with rfl|rfl|rfl|rfl|rfl|rfl|rfl|rfl|rfl|rfl|rfl|rfl|rfl|h
 ·exact xjm
 all_goals try
  (go_enter func119,ntmps119
   go_wp2
   go_ret
   exact⟨rfl,rfl⟩)
 obtain⟨h1,h2,h3,h4,h5,h6,h7,h8,h9,h10,h11,h12,h13⟩:=h
 have e:cnt op=0:=by simp[cnt,h2,h3,h4,h5,h6,h7,h8,h9,h10,h11,h12,h13]
 rw[e]
 have t2:(op==2)=false:=yam h2
 have t3:(op==3)=false:=yam h3
 have t4:(op==4)=false:=yam h4
 have t5:(op==5)=false:=yam h5
 have t6:(op==6)=false:=yam h6
 have t7:(op==7)=false:=yam h7
 have t8:(op==8)=false:=yam h8
 have t9:(op==9)=false:=yam h9
 have t10:(op==10)=false:=yam h10
 have t11:(op==11)=false:=yam h11
 have t12:(op==12)=false:=yam h12
 have t13:(op==13)=false:=yam h13
 clear e h1 h2 h3 h4 h5 h6 h7 h8 h9 h10 h11 h12 h13
 exact xjm
structure IS (w:World)(lo hi:Nat)(a:Option Addr)(n:Nat)(xs:List Int):Prop where
 len:xs.length=n
 at_:n=0\/∃g off,a=some ⟨g,off,none⟩/\lo<=g/\g<hi/\g<w.heap.size/\∀k,k<n->w.cell? ⟨g,off+k,none⟩=some (.int .i64 (xs.getD k 0))
theorem IS.keep {w w':World}{l h:Nat}{n:Nat}(f:IS w lo hi a n xs)(k:Kept l h w w')(hd:hi<=l\/h<=lo\/h<=l):IS w' lo hi a n xs:=
 ⟨f.len,by
  rcases f.at_ with h0|⟨g,off,e,h1,h2,h3,h4⟩
  ·exact .inl h0
  ·exact .inr ⟨g,off,e,h1,h2,yaj h3 k.size,λj hj=>by rw[k.cell (p:=⟨g,off+j,none⟩) h3 (by show ¬(l<=g/\g<h);omega)];exact h4 j hj⟩⟩
theorem IS.prefix {w:World}{n:Nat}(f:IS w lo hi a n xs)(m:Nat)(hm:m<=n):IS w lo hi a m (xs.take m):=
 ⟨by rw[List.length_take,f.len];omega,by
  rcases f.at_ with h0|⟨g,off,e,a1,a2,a3,a4⟩
  ·exact .inl xaa
  ·refine .inr ⟨g,off,e,a1,a2,a3,λk hk=>?_⟩
   rw[a4 k xaa]
   congr 2
   simp only[yah]
   rw[List.getElem?_take_of_lt hk]⟩
theorem yT (hk:k<xs.length)(h:(xs.take k).all (· ==n)=true)(t:(xs.getD k 0 !=n)=false):(xs.take (k+1)).all (· ==n)=true:=by
 rw[yat hk,List.all_append,h]
 rw[yah,yal hk] at t
 simp at t
 simp[t]
theorem B4 (hk:k<xs.length)(t:(xs.getD k 0 !=n)=true):xs.all (· ==n)=false:=by
 rw[yah,yal hk] at t
 simp at t
 rw[List.all_eq_false]
 exact⟨xs[k],List.getElem_mem _,by simp[t]⟩
theorem uI (w:World)(g off m cap:Nat)(n:Int)(xs:List Int)(hx:xs.length=m)(hm:m<=1099511627776)
  (hc:∀k,k<m->w.cell? ⟨g,off+k,none⟩=some (.int .i64 (xs.getD k 0))):
  Calls prog 121 #[.slice (some ⟨g,off,none⟩) m cap,.int .i64 n] w λe w'=>e=.returned (.bool (xs.all (· ==n)))/\w'=w:=by
 have HC:Hid (∀k,k<m->w.cell? ⟨g,off+k,none⟩=some (.int .i64 (xs.getD k 0))):=hc
 have HX:Hid (xs.length=m):=hx
 clear hc hx
 go_enter func121,ntmps121
 go_wp2_with fail
 go_loop [9] (λi=>∃k:Nat,k<=m/\i=.int .i64 k/\Hid ((xs.take k).all (· ==n)=true)) (λi=>m-(intOf i).toNat)
 case atStart=>exact⟨0,Nat.zero_le _,rfl,rfl⟩
 case round=>
  obtain⟨k,hk,rfl,hA⟩:=hrel
  by_cases hlt:k<m
  ·have c:=HC.out k hlt
   cases t:(xs.getD k 0 !=n)
   ·have R:Hid _:=yT (by rw[HX.out];exact hlt) hA.out t
    generalize xs.getD k 0=x at c t
    exact xeu
   ·have R:Hid (xs.all (· ==n)=false):=B4 (by rw[HX.out];exact hlt) t
    generalize xs.getD k 0=x at c t
    go_wp2
    go_ret
    exact⟨by rw[R.out];rfl,rfl⟩
  ·obtain rfl:k=m:=xaa
   have R:Hid (xs.all (· ==n)=true):=by
    exact xiw
   clear hA
   go_wp2
   go_ret
   exact⟨by rw[R.out];rfl,rfl⟩
theorem sU (w:World)(a:Option Addr)(cap:Nat)(n:Int):
  Calls prog 121 #[.slice a 0 cap,.int .i64 n] w λe w'=>e=.returned (.bool true)/\w'=w:=by
 go_enter func121,ntmps121
 exact xid
theorem Fd (w:World)(lo hi:Nat)(a:Option Addr)(m cap:Nat)(n:Int)(xs:List Int)(f:IS w lo hi a m xs)(hm:m<=1099511627776):
  Calls prog 121 #[.slice a m cap,.int .i64 n] w λe w'=>e=.returned (.bool (xs.all (· ==n)))/\w'=w:=by
 rcases f.at_ with rfl|⟨g,off,rfl,a1,a2,a3,a4⟩
 ·have:xs=[]:=List.length_eq_zero_iff.1 f.len
  subst this
  exact sU w a cap n
 ·exact uI w g off m cap n xs f.len hm a4
