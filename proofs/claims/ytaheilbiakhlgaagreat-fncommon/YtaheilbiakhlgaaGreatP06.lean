import Derived.Test.YtaheilbiakhlgaaGreatP03
namespace Go.Proofs.Z
open Tryz
set_option maxRecDepth 1000000
set_option maxHeartbeats 0
open Go.RowKit Flt
attribute[local go_sem] eF eE eD
def iw(op:Int):Nat:=if op=0\/op=1 then 0 else if op=2\/op=3\/op=4\/op=5\/op=7 then 2 else if op=8 then 3 else 1
theorem e8(op w)(ai:0<=op)(B:op<=13):Calls prog 42 #[hF op] w λe J=>e=.returned (hF (iw op:Nat))/\J=w:=by
 have h:op=0\/op=1\/op=2\/op=3\/op=4\/op=5\/op=6\/op=7\/op=8\/op=9\/op=10\/op=11\/op=12\/op=13:=xaa;clear ai B;rcases h with rfl|rfl|rfl|rfl|rfl|rfl|rfl|rfl|rfl|rfl|rfl|rfl|rfl|rfl
 all_goals
  go_enter func42,ntmps42
  go_wp2
  go_ret
  exact⟨rfl,rfl⟩
def fL(op:Int):Bool:=decide ((2<=op/\op<=8)\/op=13)
theorem fX(op w)(ai:0<=op)(B:op<=13):Calls prog 67 #[hF op] w λe J=>e=.returned (.bool (fL op))/\J=w:=by
 have h:op=0\/op=1\/op=2\/op=3\/op=4\/op=5\/op=6\/op=7\/op=8\/op=9\/op=10\/op=11\/op=12\/op=13:=xaa;clear ai B;rcases h with rfl|rfl|rfl|rfl|rfl|rfl|rfl|rfl|rfl|rfl|rfl|rfl|rfl|rfl
 all_goals
  go_enter func67,ntmps67
  go_wp2
  go_ret
  exact⟨rfl,rfl⟩
def nz(op:Int)(x y z:Nat):Nat:=
 if op=2 then cop .add x y else if op=3 then cop .sub x y else if op=4 then cop .mul x y else if op=5 then cop .quo x y
 else if op=6 then Op.negFloat .f64 x else if op=7 then jp x y else if op=8 then iz x y z else qh x
theorem rL(op x y z w)(ap:x<18446744073709551616)(bS:y<18446744073709551616)(bz:z<18446744073709551616)
  (h:op=2\/op=3\/op=4\/op=5\/op=6\/op=7\/op=8\/op=13):
  Calls prog 72 #[hF op,.float .f64 x,.float .f64 y,.float .f64 z] w λe J=>∃u,e=.returned (.float .f64 u)/\u<18446744073709551616/\fb u=fb (nz op x y z)/\Drawn w J:=by
 have f1:=@qd prog;have f2:=@xV prog;have f3:=@mT prog;have f:=@kL prog;have q:=uy;rcases h with rfl|rfl|rfl|rfl|rfl|rfl|rfl|rfl
 ·exact xex
 ·exact xex
 ·exact xex
 ·exact xex
 ·go_enter func72,ntmps72;go_wp2;go_ret;exact⟨_,rfl,vX ap,rfl,0,rfl⟩
 ·clear f1 f2 f3 f q;rw[show nz 7 x y z=jp x y from rfl];unfold jp;cases t:(FloatKind.f64.format.order x y==some .gt)
  ·exact xjy
  go_enter func72,ntmps72;go_wp2;go_ret;exact⟨_,rfl,ap,rfl,0,rfl⟩
 ·clear f1 f2 f3 f q;rw[show nz 8 x y z=iz x y z from rfl];unfold iz;cases t:(FloatKind.f64.format.order x 0==some .gt)
  ·go_enter func72,ntmps72;go_wp2;go_ret;exact⟨_,rfl,bz,rfl,0,rfl⟩
  exact xjy
 clear f1 f2 f3 f q;go_enter func72,ntmps72;go_wp2_with fail;refine(IB _ _ ap).mono ?_;rintro e J ⟨u,rfl,B,U,m,rfl⟩;go_wp2;go_ret;exact⟨u,rfl,U,B,m,rfl⟩
def r9(n:Nat):Prop:=∀(w:World) (g o c:Nat) (xs:List Nat),xs.length=n->n<=c->(∀x∈xs,x<18446744073709551616)->(∀k,k<n->w.cell? ⟨g,o+k,none⟩=some (.float .f64 (xs.getD k 0)))->
 Calls prog 73 #[.slice (some ⟨g,o,none⟩) n c] w λe w'=>∃z,e=.returned (.float .f64 z)/\z<18446744073709551616/\fb z=fb (kT xs)/\Drawn w w'
theorem II:r9 1:=by
 intro w g o c xs ap ak ca f;have c0:=f 0 xaa;rw[Nat.add_zero]at c0;have bN:=fC ca 0
 have aW:V (fb (xs.getD 0 0)=fb (kT xs)):=by
  have:=qj xs xaa;rw[yao xaa]at this;rw[this];rfl
 clear f ca ap;generalize xs.getD 0 0=bI at c0 bN aW;go_enter func73,ntmps73;go_wp2;go_ret;exact⟨bI,rfl,bN,aW.o,Drawn.refl _⟩
theorem EK(n)(B:1<=n)(hn:n<1000)(Q:r9 n):r9 (n+1):=by
 intro w g o c xs ap ak ca f;have f1:=@qd prog;have c0:=f n xaa;have bN:=fC ca n
 have aH:kT xs=cop .add (kT (xs.take n)) (xs.getD n 0):=by
  have:=oT xs n xaa xaa;rw[yao xaa]at this;exact this
 have au:V _:=aH
 have bn:V (∀W,Drawn w W->Calls prog 73 #[.slice (some ⟨g,o,none⟩) n c] W λe J=>∃z,e=.returned (.float .f64 z)/\z<18446744073709551616/\fb z=fb (kT (xs.take n))/\Drawn W J):=λW F=>
  Q W g o c (xs.take n) (by rw[List.length_take];omega) xaa (λx aw=>ca x (List.mem_of_mem_take aw)) (λk O=>by
   rw[F.cell,f k xaa]
   congr 2
   simp only[yah]
   rw[List.getElem?_take_of_lt O])
 clear aH Q f ca ap;generalize xs.getD n 0=y at c0 bN au
 have am:∀m,Calls prog 73 #[.slice (some ⟨g,o,none⟩) n c] (w.drewN m) λe J=>∃z,e=.returned (.float .f64 z)/\z<18446744073709551616/\V (fb z=fb (kT (xs.take n)))/\Drawn w J:=λm=>
  (bn.o _ ⟨m,rfl⟩).mono λ_ _ h=>by obtain⟨z,B,U,h3,a6⟩:=h;exact⟨z,B,U,h3,Drawn.trans ⟨m,rfl⟩ a6⟩
 have p:∀ag,Drawn w ag->ag.cell? ⟨g,o+n,none⟩=some (.float .f64 y):=λag h=>hR h.cell c0
 have ao:V _:=am;have i:V _:=p;clear bn am p;have t:(((n:Int)+1)==1)=false:=yam xaa;have ee:n<=c:=xaa;have Z:(n:Int)<=c:=xaa;have j:IntKind.i64.wrap (n:Int)=n:=by rw[IntKind.wrap_i64];omega
 go_enter func73,ntmps73;go_wp2_with fail;go_region_with (go_at_call 73;refine(ao.o 1).mono ?_;rintro e ag ⟨z,rfl,bz,ch,aY⟩;have c2:=i.o ag aY)
 all_goals
  go_wp2
  go_ret
  refine⟨_,rfl,iB _ _ _ _,?_,?_⟩
  ·rw[ie,au.o]
   congr 1
   exact ib .add ch.o rfl
  ·exact aY.more _
theorem Bq:∀n,1<=n->n<=1000->r9 n
 |0,h,_=>by omega
 |1,_,_=>II
 |n+2,_,h=>EK (n+1) xaa xaa (Bq (n+1) xaa xaa)
theorem OG(w n)(B:1<=n)(hn:n<=1000){bN az br c0 xs}(bH:FS w bN az br n xs)(ak:n<=c0):
  Calls prog 73 #[.slice br n c0] w λe J=>∃z,e=.returned (.float .f64 z)/\z<18446744073709551616/\fb z=fb (kT xs)/\Drawn w J:=by
 rcases bH.at_ with h|⟨g,o,rfl,_,_,b,k⟩
 ·omega
 exact Bq n B hn w g o c0 xs bH.len ak bH.lt k
