import Derived.Test.YtamokkcfibdghaaGreatP03
namespace Go.Proofs.Z
open Tryz
set_option maxRecDepth 1000000
set_option maxHeartbeats 0
open Go.RowKit Flt
attribute [local go_sem] eG eE eD
def iB (op:Int):Nat:=if op=0\/op=1 then 0 else if op=2\/op=3\/op=4\/op=5\/op=7 then 2 else if op=8 then 3 else 1
theorem fd(op w)(aj:0<=op)(B:op<=13):Calls prog 37 #[hI op] w λe J=>e=.returned (hI (iB op:Nat))/\J=w:=by
 have h:op=0\/op=1\/op=2\/op=3\/op=4\/op=5\/op=6\/op=7\/op=8\/op=9\/op=10\/op=11\/op=12\/op=13:=xaa;clear aj B;rcases h with rfl|rfl|rfl|rfl|rfl|rfl|rfl|rfl|rfl|rfl|rfl|rfl|rfl|rfl
 all_goals
  go_enter func37,ntmps37
  go_wp2
  go_ret
  exact⟨rfl,rfl⟩
def fF (op:Int):Bool:=decide ((2<=op/\op<=8)\/op=13)
theorem fR(op w)(aj:0<=op)(B:op<=13):Calls prog 61 #[hI op] w λe J=>e=.returned (.bool (fF op))/\J=w:=by
 have h:op=0\/op=1\/op=2\/op=3\/op=4\/op=5\/op=6\/op=7\/op=8\/op=9\/op=10\/op=11\/op=12\/op=13:=xaa;clear aj B;rcases h with rfl|rfl|rfl|rfl|rfl|rfl|rfl|rfl|rfl|rfl|rfl|rfl|rfl|rfl
 all_goals
  go_enter func61,ntmps61
  go_wp2
  go_ret
  exact⟨rfl,rfl⟩
def nd (op:Int)(x y z:Nat):Nat:=
 if op=2 then cop .add x y else if op=3 then cop .sub x y else if op=4 then cop .mul x y else if op=5 then cop .quo x y
 else if op=6 then Op.negFloat .f64 x else if op=7 then jr x y else if op=8 then iC x y z else qk x
theorem rS(op x y z w)(au:x<18446744073709551616)(bV:y<18446744073709551616)(bp:z<18446744073709551616)
  (h:op=2\/op=3\/op=4\/op=5\/op=6\/op=7\/op=8\/op=13):
  Calls prog 62 #[hI op,.float .f64 x,.float .f64 y,.float .f64 z] w λe J=>∃u,e=.returned (.float .f64 u)/\u<18446744073709551616/\fb u=fb (nd op x y z)/\Drawn w J:=by
 have f1:=@qf prog;have f2:=@yt prog;have f3:=@mL prog;have f:=@kK prog;have q:=uQ;rcases h with rfl|rfl|rfl|rfl|rfl|rfl|rfl|rfl
 ·exact xex
 ·exact xex
 ·exact xex
 ·exact xex
 ·go_enter func62,ntmps62;go_wp2;go_ret;exact⟨_,rfl,wu au,rfl,0,rfl⟩
 ·clear f1 f2 f3 f q;rw[show nd 7 x y z=jr x y from rfl];unfold jr;cases t:(FloatKind.f64.format.order x y==some .gt)
  ·exact xkc
  go_enter func62,ntmps62;go_wp2;go_ret;exact⟨_,rfl,au,rfl,0,rfl⟩
 ·clear f1 f2 f3 f q;rw[show nd 8 x y z=iC x y z from rfl];unfold iC;cases t:(FloatKind.f64.format.order x 0==some .gt)
  ·go_enter func62,ntmps62;go_wp2;go_ret;exact⟨_,rfl,bp,rfl,0,rfl⟩
  exact xkc
 clear f1 f2 f3 f q;go_enter func62,ntmps62;go_wp2_with fail;refine(IV _ _ au).mono ?_;rintro e J ⟨u,rfl,B,R,m,rfl⟩;go_wp2;go_ret;exact⟨u,rfl,R,B,m,rfl⟩
def sA (n:Nat):Prop:=∀(w:World) (g o c:Nat) (xs:List Nat),xs.length=n->n<=c->(∀x∈xs,x<18446744073709551616)->(∀k,k<n->w.cell? ⟨g,o+k,none⟩=some (.float .f64 (xs.getD k 0)))->
 Calls prog 63 #[.slice (some ⟨g,o,none⟩) n c] w λe w'=>∃z,e=.returned (.float .f64 z)/\z<18446744073709551616/\fb z=fb (kR xs)/\Drawn w w'
theorem I0:sA 1:=by
 intro w g o c xs au ai cu f;have c0:=f 0 xaa;rw[Nat.add_zero]at c0;have bN:=fx cu 0
 have s0:V (fb (xs.getD 0 0)=fb (kR xs)):=by
  have:=ql xs xaa;rw[yao xaa]at this;rw[this];rfl
 clear f cu au;generalize xs.getD 0 0=bL at c0 bN s0;go_enter func63,ntmps63;go_wp2;go_ret;exact⟨bL,rfl,bN,s0.o,Drawn.refl _⟩
theorem E5(n)(B:1<=n)(hn:n<1000)(aj:sA n):sA (n+1):=by
 intro w g o c xs au ai cu f;have f1:=@qf prog;have c0:=f n xaa;have bN:=fx cu n
 have aC:kR xs=cop .add (kR (xs.take n)) (xs.getD n 0):=by
  have:=oS xs n xaa xaa;rw[yao xaa]at this;exact this
 have aw:V _:=aC
 have bB:V (∀W,Drawn w W->Calls prog 63 #[.slice (some ⟨g,o,none⟩) n c] W λe J=>∃z,e=.returned (.float .f64 z)/\z<18446744073709551616/\fb z=fb (kR (xs.take n))/\Drawn W J):=λW U=>
  aj W g o c (xs.take n) (by rw[List.length_take];omega) xaa (λx az=>cu x (List.mem_of_mem_take az)) (λk O=>by
   rw[U.cell,f k xaa]
   congr 2
   simp only[yah]
   rw[List.getElem?_take_of_lt O])
 clear aC aj f cu au;generalize xs.getD n 0=y at c0 bN aw
 have an:∀m,Calls prog 63 #[.slice (some ⟨g,o,none⟩) n c] (w.drewN m) λe J=>∃z,e=.returned (.float .f64 z)/\z<18446744073709551616/\V (fb z=fb (kR (xs.take n)))/\Drawn w J:=λm=>
  (bB.o _ ⟨m,rfl⟩).mono λ_ _ h=>by obtain⟨z,B,R,h3,a8⟩:=h;exact⟨z,B,R,h3,Drawn.trans ⟨m,rfl⟩ a8⟩
 have p:∀af,Drawn w af->af.cell? ⟨g,o+n,none⟩=some (.float .f64 y):=λaf h=>hU h.cell c0
 have bY:V _:=an;have i:V _:=p;clear bB an p;have t:(((n:Int)+1)==1)=false:=yam xaa;have cO:n<=c:=xaa;have N:(n:Int)<=c:=xaa;have j:IntKind.i64.wrap (n:Int)=n:=by rw[IntKind.wrap_i64];omega
 go_enter func63,ntmps63;go_wp2_with fail;go_region_with (go_at_call 63;refine(bY.o 1).mono ?_;rintro e af ⟨z,rfl,bp,cd,bf⟩;have c2:=i.o af bf)
 all_goals
  go_wp2
  go_ret
  refine⟨_,rfl,iE _ _ _ _,?_,?_⟩
  ·rw[ik,aw.o]
   congr 1
   exact gL .add cd.o rfl
  ·exact bf.more _
theorem BI:∀n,1<=n->n<=1000->sA n
 |0,h,_=>by omega
 |1,_,_=>I0
 |n+2,_,h=>E5 (n+1) xaa xaa (BI (n+1) xaa xaa)
theorem OQ(w n)(B:1<=n)(hn:n<=1000){bN P bw c0 xs}(bG:FS w bN P bw n xs)(ai:n<=c0):
  Calls prog 63 #[.slice bw n c0] w λe J=>∃z,e=.returned (.float .f64 z)/\z<18446744073709551616/\fb z=fb (kR xs)/\Drawn w J:=by
 rcases bG.at_ with h|⟨g,o,rfl,_,_,b,k⟩
 ·omega
 exact BI n B hn w g o c0 xs bG.len ai bG.lt k
