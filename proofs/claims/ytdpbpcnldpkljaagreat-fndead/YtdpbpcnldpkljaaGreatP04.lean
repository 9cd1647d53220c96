import Derived.Test.YtdpbpcnldpkljaaGreatP03
namespace Go.Proofs.Z
open Tryz
set_option maxRecDepth 1000000
set_option maxHeartbeats 0
section
open Go.RowKit Flt
def Hp (r:Nat):Nat->Nat
 |0=>4607182418800017408
 |n+1=>cop .add (cop .quo (cop .mul r (Hp r n)) (floatOfInt .f64 (14-(n:Int)))) 4607182418800017408
def csq (p:Nat):Nat->Nat
 |0=>p
 |n+1=>cop .mul (csq p n) (csq p n)
def IT (x:Nat):Nat:=
 if FloatKind.f64.format.order x x !=some .eq then x
 else if FloatKind.f64.format.order x 4652007308841189376==some .gt then 9218868437227405312
 else if FloatKind.f64.format.order x 13875379345695965184==some .lt then 0
 else csq (Hp (cop .quo x 4652218415073722368) 14) 10
end
section
open Go.RowKit Flt
attribute [local go_sem] eD eB eA
def B5 (x y z:Nat):Nat:=if FloatKind.f64.format.order x 0==some .gt then y else z
def yU (x y:Nat):Nat:=if FloatKind.f64.format.order x y==some .gt then x else y
def IU:List Nat->Nat
 |[]=>0
 |x::xs=>xs.foldl (cop .add) x
def fi (op len C:Int)(la lb lc:Nat):Bool:=lenB len&&eQ op len C (([(la:Int),(lb:Int),(lc:Int)]).take (cnt op))
def IV (op C:Int)(K:Nat)(xa xb xc:List Nat)(k:Nat):Nat:=
 if op=1 then K else if op=2 then cop .add (xa.getD k 0) (xb.getD k 0) else if op=3 then cop .sub (xa.getD k 0) (xb.getD k 0)
 else if op=4 then cop .mul (xa.getD k 0) (xb.getD k 0) else if op=5 then cop .quo (xa.getD k 0) (xb.getD k 0)
 else if op=6 then Op.negFloat .f64 (xa.getD k 0) else if op=7 then yU (xa.getD k 0) (xb.getD k 0)
 else if op=8 then B5 (xa.getD k 0) (xb.getD k 0) (xc.getD k 0) else if op=9 then IU xa
 else if op=10 then xa.getD 0 0 else if op=11 then xa.getD C.toNat 0 else if op=12 then (if k=C.toNat then xa.getD 0 0 else 0)
 else IT (xa.getD k 0)
theorem B6 (w:World)(x y z:Int):IS (w.alloc (.cells #[.int .i64 x,.int .i64 y,.int .i64 z] 3)) 0 (w.heap.size+1) (some ⟨w.heap.size,0,none⟩) 3 [x,y,z]:=
 ⟨rfl,.inr ⟨w.heap.size,0,rfl,Nat.zero_le _,yae,by simp,λk hk=>by
  have:k=0\/k=1\/k=2:=xaa
  rcases this with rfl|rfl|rfl<;>simp⟩⟩
def io (op:Int):Bool:=decide (op=11\/op=12)
theorem yV (op:Int)(w:World):Calls prog 120 #[.int .i64 op] w λe w'=>e=.returned (.bool (io op))/\w'=w:=by
 by_cases h1:op=11
 ·subst h1
  exact xgo
 ·by_cases h2:op=12
  ·subst h2
   exact xgo
  ·rw[show io op=false from yax xaa]
   have t1:(op==11)=false:=yam h1
   have t2:(op==12)=false:=yam h2
   clear h1 h2
   exact xgo
def f9 (v:Vl):Bool:=!(((decide (cnt v.op<1)&&v.op !=0)&&v.a !=0)||(decide (cnt v.op<2)&&v.b !=0)||((decide (cnt v.op<3)&&!io v.op)&&v.c !=0))
theorem xn (w:World)(op len A B C:Int)(K n:Nat)(hn:n<=3)(p:Bool)(HC:Hid (∀w,Calls prog 119 #[.int .i64 op] w λe w'=>e=.returned (.int .i64 (n:Nat))/\w'=w))
  (HP:Hid (∀w,Calls prog 120 #[.int .i64 op] w λe w'=>e=.returned (.bool p)/\w'=w)):
  Calls prog 86 #[ib op len A B C K] w λe w'=>e=.returned (.bool (!(((decide (n<1)&&op !=0)&&A !=0)||(decide (n<2)&&B !=0)||((decide (n<3)&&!p)&&C !=0))))/\Kept 0 0 w w':=by
 rcases (by omega:n=0\/n=1\/n=2\/n=3) with rfl|rfl|rfl|rfl
 all_goals
  go_enter func86,ntmps86
  go_wp2_with (first|(go_at_call 119;refine(HC.out _).mono ?_;rintro e w2 ⟨rfl,rfl⟩)|(go_at_call 120;refine(HP.out _).mono ?_;rintro e w2 ⟨rfl,rfl⟩))
  all_goals
   go_ret
   exact⟨by simp_all,ez _ _ _ _⟩
theorem lw (w:World)(v:Vl):Calls prog 86 #[v.agg] w λe w'=>e=.returned (.bool (f9 v))/\Kept 0 0 w w':=
 xn w v.op v.len v.a v.b v.c v.k (cnt v.op) (gX _) (io v.op) (λw=>rA _ w) (λw=>yV _ w)
def eN (v:Vl):List Int:=[v.a,v.b,v.c].take (cnt v.op)
theorem iP (v:Vl):(eN v).length=cnt v.op:=by
 have:=gX v.op
 simp[eN];omega
theorem pd (w:World)(v:Vl):Calls prog 87 #[v.agg] w λe w'=>∃g,e=.returned (.slice (some ⟨g,0,none⟩) (cnt v.op) 3)/\IS w' w.heap.size w'.heap.size (some ⟨g,0,none⟩) (cnt v.op) (eN v)/\g+1=w'.heap.size/\Kept 0 0 w w':=by
 have hcnt:=gX v.op
 have hI:Hid _:=(B6 (w.alloc (fX v.op v.len v.a v.b v.c v.k)) v.a v.b v.c).prefix (cnt v.op) hcnt
 have HC:Hid (∀w,Calls prog 119 #[.int .i64 v.op] w λe w'=>e=.returned (.int .i64 (cnt v.op:Nat))/\w'=w):=rA v.op
 generalize hq:cnt v.op=q at hI HC hcnt
 have b0:(0:Int)<=(q:Int):=xaa
 have b1:(q:Int)<=3:=xaa
 go_enter func87,ntmps87
 go_wp2_with fail
 go_region_held3 (λw'=>w'.cell? ⟨w.heap.size,0,none⟩=some (.int .i64 v.op)/\w'.cell? ⟨w.heap.size,2,none⟩=some (.int .i64 v.a)/\w'.cell? ⟨w.heap.size,3,none⟩=some (.int .i64 v.b)/\w'.cell? ⟨w.heap.size,4,none⟩=some (.int .i64 v.c)) (go_keep)
  ((go_at_call 119;refine(HC.out _).mono ?_;rintro e w2 ⟨rfl,rfl⟩))
 all_goals
  go_wp2
  go_ret
  have h1:(w.alloc (fX v.op v.len v.a v.b v.c v.k)).heap.size=w.heap.size+1:=by simp
  have hI':=hI.out
  rw[h1] at hI'
  refine⟨w.heap.size+1,rfl,⟨hI'.len.trans rfl |> λe=>by rw[eN,hq];exact e,?_⟩,?_,?_⟩
  ·rcases hI'.at_ with h0|⟨g,off,e,a1,a2,a3,a4⟩
   ·exact .inl h0
   ·cases e
    refine .inr ⟨_,_,rfl,Nat.le_succ _,?_,?_,λk hk=>?_⟩
    ·exact a3
    ·exact a3
    ·rw[eN,hq];exact a4 k hk
  ·show w.heap.size+1+1=((w.alloc _).alloc _).heap.size
   simp
  ·exact((ez 0 0 w _).trans (ez 0 0 _ _)).trans (eK 0 0 _ 1)
def ig (op:Int):Nat:=if op=0\/op=1 then 0 else if op=2\/op=3\/op=4\/op=5\/op=7 then 2 else if op=8 then 3 else 1
theorem eV (op:Int)(w:World)(h0:0<=op)(h1:op<=13):Calls prog 36 #[.int .i64 op] w λe w'=>e=.returned (.int .i64 (ig op:Nat))/\w'=w:=by
 have h:op=0\/op=1\/op=2\/op=3\/op=4\/op=5\/op=6\/op=7\/op=8\/op=9\/op=10\/op=11\/op=12\/op=13:=xaa
 clear h0 h1
 rcases h with rfl|rfl|rfl|rfl|rfl|rfl|rfl|rfl|rfl|rfl|rfl|rfl|rfl|rfl
 all_goals
  go_enter func36,ntmps36
  go_wp2
  go_ret
  exact⟨rfl,rfl⟩
def gg (op:Int):Bool:=decide ((2<=op/\op<=8)\/op=13)
theorem fD (op:Int)(w:World)(h0:0<=op)(h1:op<=13):Calls prog 69 #[.int .i64 op] w λe w'=>e=.returned (.bool (gg op))/\w'=w:=by
 have h:op=0\/op=1\/op=2\/op=3\/op=4\/op=5\/op=6\/op=7\/op=8\/op=9\/op=10\/op=11\/op=12\/op=13:=xaa
 clear h0 h1
 rcases h with rfl|rfl|rfl|rfl|rfl|rfl|rfl|rfl|rfl|rfl|rfl|rfl|rfl|rfl
 all_goals
  go_enter func69,ntmps69
  go_wp2
  go_ret
  exact⟨rfl,rfl⟩
