import Derived.Test.YtcjhlkdleojbjaaGreatP03
namespace Go.Proofs.Z
open Tryz
set_option maxRecDepth 1000000
set_option maxHeartbeats 0
open Go.RowKit Flt
attribute[local go_sem] eF eE eD
def sQ(op:Int):Nat:=if op=0\/op=1 then 0 else if op=2\/op=3\/op=4\/op=5\/op=7 then 2 else if op=8 then 3 else 1
theorem lO(op w)(al:0<=op)(F:op<=13):Calls prog 51 #[hA op] w λe B=>e=.returned (hA (sQ op:Nat))/\B=w:=by
 have h:op=0\/op=1\/op=2\/op=3\/op=4\/op=5\/op=6\/op=7\/op=8\/op=9\/op=10\/op=11\/op=12\/op=13:=xaa;clear al F;rcases h with rfl|rfl|rfl|rfl|rfl|rfl|rfl|rfl|rfl|rfl|rfl|rfl|rfl|rfl
 all_goals
  go_enter func51,ntmps51
  go_wp2
  go_ret
  exact⟨rfl,rfl⟩
def uV(op:Int):Bool:=decide ((2<=op/\op<=8)\/op=13)
theorem FE(op w)(al:0<=op)(F:op<=13):Calls prog 82 #[hA op] w λe B=>e=.returned (.bool (uV op))/\B=w:=by
 have h:op=0\/op=1\/op=2\/op=3\/op=4\/op=5\/op=6\/op=7\/op=8\/op=9\/op=10\/op=11\/op=12\/op=13:=xaa;clear al F;rcases h with rfl|rfl|rfl|rfl|rfl|rfl|rfl|rfl|rfl|rfl|rfl|rfl|rfl|rfl
 all_goals
  go_enter func82,ntmps82
  go_wp2
  go_ret
  exact⟨rfl,rfl⟩
def wC(op:Int)(x y z:Nat):Nat:=
 if op=2 then cop .add x y else if op=3 then cop .sub x y else if op=4 then cop .mul x y else if op=5 then cop .quo x y
 else if op=6 then Op.negFloat .f64 x else if op=7 then jF x y else if op=8 then io x y z else rW x
theorem FF(op x y z w)(an:x<18446744073709551616)(bN:y<18446744073709551616)(bv:z<18446744073709551616)
  (h:op=2\/op=3\/op=4\/op=5\/op=6\/op=7\/op=8\/op=13):
  Calls prog 83 #[hA op,.float .f64 x,.float .f64 y,.float .f64 z] w λe B=>∃u,e=.returned (.float .f64 u)/\u<18446744073709551616/\fb u=fb (wC op x y z)/\Drawn w B:=by
 have f1:=@nQ prog;have f2:=@yw prog;have f3:=@lM prog;have f:=@jX prog;have ap:=lF;rcases h with rfl|rfl|rfl|rfl|rfl|rfl|rfl|rfl
 ·exact xdh
 ·exact xdh
 ·exact xdh
 ·exact xdh
 ·go_enter func83,ntmps83;go_wp2;go_ret;exact⟨_,rfl,mW an,rfl,0,rfl⟩
 ·clear f1 f2 f3 f ap;rw[show wC 7 x y z=jF x y from rfl];unfold jF;cases t:(FloatKind.f64.format.order x y==some .gt)
  ·exact xhy
  go_enter func83,ntmps83;go_wp2;go_ret;exact⟨_,rfl,an,rfl,0,rfl⟩
 ·clear f1 f2 f3 f ap;rw[show wC 8 x y z=io x y z from rfl];unfold io;cases t:(FloatKind.f64.format.order x 0==some .gt)
  ·go_enter func83,ntmps83;go_wp2;go_ret;exact⟨_,rfl,bv,rfl,0,rfl⟩
  exact xhy
 clear f1 f2 f3 f ap;go_enter func83,ntmps83;go_wp2_with fail;refine(JM _ _ an).mono ?_;rintro e B ⟨u,rfl,F,N,m,rfl⟩;go_wp2;go_ret;exact⟨u,rfl,N,F,m,rfl⟩
def sp(n:Nat):Prop:=∀(w:World) (g o c:Nat) (xs:List Nat),xs.length=n->n<=c->(∀x∈xs,x<18446744073709551616)->(∀k,k<n->w.cell? ⟨g,o+k,none⟩=some (.float .f64 (xs.getD k 0)))->
 Calls prog 84 #[.slice (some ⟨g,o,none⟩) n c] w λe w'=>∃z,e=.returned (.float .f64 z)/\z<18446744073709551616/\fb z=fb (kX xs)/\Drawn w w'
theorem JQ:sp 1:=by
 intro w g o c xs an ah co f;have c0:=f 0 xaa;rw[Nat.add_zero]at c0;have bB:=gI co 0
 have aZ:E (fb (xs.getD 0 0)=fb (kX xs)):=by
  have:=pW xs xaa;rw[yap xaa]at this;rw[this];rfl
 clear f co an;generalize xs.getD 0 0=bz at c0 bB aZ;go_enter func84,ntmps84;go_wp2;go_ret;exact⟨bz,rfl,bB,aZ.o,Drawn.refl _⟩
theorem FG(n)(F:1<=n)(ad:n<1000)(al:sp n):sp (n+1):=by
 intro w g o c xs an ah co f;have f1:=@nQ prog;have c0:=f n xaa;have bB:=gI co n
 have U:kX xs=cop .add (kX (xs.take n)) (xs.getD n 0):=by
  have:=oN xs n xaa xaa;rw[yap xaa]at this;exact this
 have ao:E _:=U
 have aM:E (∀W,Drawn w W->Calls prog 84 #[.slice (some ⟨g,o,none⟩) n c] W λe B=>∃z,e=.returned (.float .f64 z)/\z<18446744073709551616/\fb z=fb (kX (xs.take n))/\Drawn W B):=λW ai=>
  al W g o c (xs.take n) (by rw[List.length_take];omega) xaa (λx am=>co x (List.mem_of_mem_take am)) (λk O=>by
   rw[ai.cell,f k xaa]
   congr 2
   simp only[yai]
   rw[List.getElem?_take_of_lt O])
 clear U al f co an;generalize xs.getD n 0=y at c0 bB ao
 have v:∀m,Calls prog 84 #[.slice (some ⟨g,o,none⟩) n c] (w.drewN m) λe B=>∃z,e=.returned (.float .f64 z)/\z<18446744073709551616/\E (fb z=fb (kX (xs.take n)))/\Drawn w B:=λm=>
  (aM.o _ ⟨m,rfl⟩).mono λ_ _ h=>by obtain⟨z,F,N,h3,a6⟩:=h;exact⟨z,F,N,h3,Drawn.trans ⟨m,rfl⟩ a6⟩
 have j:∀ag,Drawn w ag->ag.cell? ⟨g,o+n,none⟩=some (.float .f64 y):=λag h=>hL h.cell c0
 have s:E _:=v;have l:E _:=j;clear aM v j;have t:(((n:Int)+1)==1)=false:=yan xaa;have d0:n<=c:=xaa;have av:(n:Int)<=c:=xaa;have i:IntKind.i64.wrap (n:Int)=n:=by rw[IntKind.wrap_i64];omega
 go_enter func84,ntmps84;go_wp2_with fail;go_region_with (go_at_call 84;refine(s.o 1).mono ?_;rintro e ag ⟨z,rfl,bv,b2,bl⟩;have c2:=l.o ag bl)
 all_goals
  go_wp2
  go_ret
  refine⟨_,rfl,gJ _ _ _ _,?_,?_⟩
  ·rw[gl,ao.o]
   congr 1
   exact gG .add b2.o rfl
  ·exact bl.more _
theorem B6:∀n,1<=n->n<=1000->sp n
 |0,h,_=>by omega
 |1,_,_=>JQ
 |n+2,_,h=>FG (n+1) xaa xaa (B6 (n+1) xaa xaa)
theorem Pm(w n)(F:1<=n)(ad:n<=1000){bB aO b0 c0 xs}(bG:FS w bB aO b0 n xs)(ah:n<=c0):
  Calls prog 84 #[.slice b0 n c0] w λe B=>∃z,e=.returned (.float .f64 z)/\z<18446744073709551616/\fb z=fb (kX xs)/\Drawn w B:=by
 rcases bG.at_ with h|⟨g,o,rfl,_,_,b,k⟩
 ·omega
 exact B6 n F ad w g o c0 xs bG.len ah bG.lt k
