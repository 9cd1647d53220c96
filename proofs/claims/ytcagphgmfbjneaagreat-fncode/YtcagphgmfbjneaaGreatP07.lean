import Derived.Test.YtcagphgmfbjneaaGreatP05
namespace Go.Proofs.Z
open Tryz
set_option maxRecDepth 1000000
set_option maxHeartbeats 0
open Go.RowKit Flt
attribute[local go_sem] eE eD eC
def sI(op:Int):Nat:=if op=0\/op=1 then 0 else if op=2\/op=3\/op=4\/op=5\/op=7 then 2 else if op=8 then 3 else 1
theorem jr(op w)(ak:0<=op)(F:op<=13):Calls prog 19 #[h1 op] w λe B=>e=.returned (h1 (sI op:Nat))/\B=w:=by
 have h:op=0\/op=1\/op=2\/op=3\/op=4\/op=5\/op=6\/op=7\/op=8\/op=9\/op=10\/op=11\/op=12\/op=13:=xaa;clear ak F;rcases h with rfl|rfl|rfl|rfl|rfl|rfl|rfl|rfl|rfl|rfl|rfl|rfl|rfl|rfl
 all_goals
  go_enter func19,ntmps19
  go_wp2
  go_ret
  exact⟨rfl,rfl⟩
def ud(op:Int):Bool:=decide ((2<=op/\op<=8)\/op=13)
theorem Br(op w)(ak:0<=op)(F:op<=13):Calls prog 68 #[h1 op] w λe B=>e=.returned (.bool (ud op))/\B=w:=by
 have h:op=0\/op=1\/op=2\/op=3\/op=4\/op=5\/op=6\/op=7\/op=8\/op=9\/op=10\/op=11\/op=12\/op=13:=xaa;clear ak F;rcases h with rfl|rfl|rfl|rfl|rfl|rfl|rfl|rfl|rfl|rfl|rfl|rfl|rfl|rfl
 all_goals
  go_enter func68,ntmps68
  go_wp2
  go_ret
  exact⟨rfl,rfl⟩
def xE(op:Int)(x y z:Nat):Nat:=
 if op=2 then cop .add x y else if op=3 then cop .sub x y else if op=4 then cop .mul x y else if op=5 then cop .quo x y
 else if op=6 then Op.negFloat .f64 x else if op=7 then jP x y else if op=8 then ir x y z else sF x
theorem FV(op x y z w)(ap:x<18446744073709551616)(bp:y<18446744073709551616)(a5:z<18446744073709551616)
  (h:op=2\/op=3\/op=4\/op=5\/op=6\/op=7\/op=8\/op=13):
  Calls prog 70 #[h1 op,.float .f64 x,.float .f64 y,.float .f64 z] w λe B=>∃u,e=.returned (.float .f64 u)/\u<18446744073709551616/\fb u=fb (xE op x y z)/\Drawn w B:=by
 have f1:=@oA prog;have f2:=@yU prog;have f3:=@l9 prog;have a:=@kr prog;have d:=lT;rcases h with rfl|rfl|rfl|rfl|rfl|rfl|rfl|rfl
 ·exact xdp
 ·exact xdp
 ·exact xdp
 ·exact xdp
 ·go_enter func70,ntmps70;go_wp2;go_ret;exact⟨_,rfl,nh ap,rfl,0,rfl⟩
 ·clear f1 f2 f3 a d;rw[show xE 7 x y z=jP x y from rfl];unfold jP;cases t:(FloatKind.f64.format.order x y==some .gt)
  ·exact xih
  go_enter func70,ntmps70;go_wp2;go_ret;exact⟨_,rfl,ap,rfl,0,rfl⟩
 ·clear f1 f2 f3 a d;rw[show xE 8 x y z=ir x y z from rfl];unfold ir;cases t:(FloatKind.f64.format.order x 0==some .gt)
  ·go_enter func70,ntmps70;go_wp2;go_ret;exact⟨_,rfl,a5,rfl,0,rfl⟩
  exact xih
 clear f1 f2 f3 a d;go_enter func70,ntmps70;go_wp2_with fail;refine(JJ _ _ ap).mono ?_;rintro e B ⟨u,rfl,F,h2,m,rfl⟩;go_wp2;go_ret;exact⟨u,rfl,h2,F,m,rfl⟩
def sS(n:Nat):Prop:=∀(w:World) (g o c:Nat) (xs:List Nat),xs.length=n->n<=c->(∀x∈xs,x<18446744073709551616)->(∀k,k<n->w.cell? ⟨g,o+k,none⟩=some (.float .f64 (xs.getD k 0)))->
 Calls prog 71 #[.slice (some ⟨g,o,none⟩) n c] w λe w'=>∃z,e=.returned (.float .f64 z)/\z<18446744073709551616/\fb z=fb (lB xs)/\Drawn w w'
theorem JU:sS 1:=by
 intro w g o c xs ap al bE a;have c0:=a 0 xaa;rw[Nat.add_zero]at c0;have bQ:=gh bE 0
 have aY:V (fb (xs.getD 0 0)=fb (lB xs)):=by
  have:=qC xs xaa;rw[yap xaa]at this;rw[this];rfl
 clear a bE ap;generalize xs.getD 0 0=bF at c0 bQ aY;go_enter func71,ntmps71;go_wp2;go_ret;exact⟨bF,rfl,bQ,aY.o,Drawn.refl _⟩
theorem FW(n)(F:1<=n)(ag:n<1000)(N:sS n):sS (n+1):=by
 intro w g o c xs ap al bE a;have f1:=@oA prog;have c0:=a n xaa;have bQ:=gh bE n
 have af:lB xs=cop .add (lB (xs.take n)) (xs.getD n 0):=by
  have:=pq xs n xaa xaa;rw[yap xaa]at this;exact this
 have au:V _:=af
 have aL:V (∀W,Drawn w W->Calls prog 71 #[.slice (some ⟨g,o,none⟩) n c] W λe B=>∃z,e=.returned (.float .f64 z)/\z<18446744073709551616/\fb z=fb (lB (xs.take n))/\Drawn W B):=λW G=>
  N W g o c (xs.take n) (by rw[List.length_take];omega) xaa (λx ao=>bE x (List.mem_of_mem_take ao)) (λk O=>by
   rw[G.cell,a k xaa]
   congr 2
   simp only[yai]
   rw[List.getElem?_take_of_lt O])
 clear af N a bE ap;generalize xs.getD n 0=y at c0 bQ au
 have u:∀m,Calls prog 71 #[.slice (some ⟨g,o,none⟩) n c] (w.drewN m) λe B=>∃z,e=.returned (.float .f64 z)/\z<18446744073709551616/\V (fb z=fb (lB (xs.take n)))/\Drawn w B:=λm=>
  (aL.o _ ⟨m,rfl⟩).mono λ_ _ h=>by obtain⟨z,F,h2,h3,h4⟩:=h;exact⟨z,F,h2,h3,Drawn.trans ⟨m,rfl⟩ h4⟩
 have K:∀am,Drawn w am->am.cell? ⟨g,o+n,none⟩=some (.float .f64 y):=λam h=>i1 h.cell c0
 have j:V _:=u;have b:V _:=K;clear aL u K;have t:(((n:Int)+1)==1)=false:=yan xaa;have d1:n<=c:=xaa;have v:(n:Int)<=c:=xaa;have X:IntKind.i64.wrap (n:Int)=n:=by rw[IntKind.wrap_i64];omega
 go_enter func71,ntmps71;go_wp2_with fail;go_region_with (go_at_call 71;refine(j.o 1).mono ?_;rintro e am ⟨z,rfl,a5,HZ,bx⟩;have c2:=b.o am bx)
 all_goals
  go_wp2
  go_ret
  refine⟨_,rfl,gF _ _ _ _,?_,?_⟩
  ·rw[fV,au.o]
   congr 1
   exact gn .add HZ.o rfl
  ·exact bx.more _
theorem Ct:∀n,1<=n->n<=1000->sS n
 |0,h,_=>by omega
 |1,_,_=>JU
 |n+2,_,h=>FW (n+1) xaa xaa (Ct (n+1) xaa xaa)
theorem PT(w n)(F:1<=n)(ag:n<=1000){bQ t cg c0 xs}(bN:FS w bQ t cg n xs)(al:n<=c0):
  Calls prog 71 #[.slice cg n c0] w λe B=>∃z,e=.returned (.float .f64 z)/\z<18446744073709551616/\fb z=fb (lB xs)/\Drawn w B:=by
 rcases bN.at_ with h|⟨g,o,rfl,_,_,b,k⟩
 ·omega
 exact Ct n F ag w g o c0 xs bN.len al bN.lt k
