import Derived.Test.YtbhmhdllnfkjhaaGreatP36
namespace Go.Proofs.Z
open Tryz
set_option maxRecDepth 1000000
set_option maxHeartbeats 0
open Go.RowKit Flt
attribute[local go_sem] eG eE eD
variable{P:Prop}
variable{X:Xd}{W W':World}{env:List (List UInt8×Int)}{bs:List Int}{i j:Nat}
theorem Sd.al(h:Sd X env bs i W)(o):V (Sd {X with w:=W.alloc o} env bs i (W.alloc o)):=⟨h.rd.keep0 (ez 0 0 _ _),h.en.keep0 (ez 0 0 _ _),Kept.refl _ _ _⟩
theorem Sd.fin{cs r}(h3:Sd {X with w:=W.alloc (.cells cs r)} env bs j W')(h:Sd X env bs i W):Sd X env bs j W'/\∀m v,cs[m]? =some v->W'.cell? ⟨W.heap.size,m,none⟩=some v:=
 ⟨⟨h3.rd,h3.en,h.kp.trans ((fh (ez 0 0 _ _)).trans h3.kp)⟩,λm v e=>by
   have aK:=h.rd.lt
   rw[h3.kp.cell (p:=⟨W.heap.size,m,none⟩) xac (by show ¬(X.P<=W.heap.size/\W.heap.size<X.P+1);omega),yav,e]⟩
theorem WkS(h:P:=by(try simp only[yar,gi,yaq,List.length_nil]);omega):P:=h
theorem WkE(h:P:=by
  repeat (rw[yar]at z;refine sz2 z ?_;clear z;intro _ z)
  go_enter func72,ntmps72
  go_wp2_with ((first
   |(go_at_call 33;refine(nxS au.o).mono ?_)
   |(go_at_call 39;refine(lfS au.o).mono ?_)
   |(go_at_call 72;(first|have bT:=E1.2 _ _ au|have bT:=E2.2 _ _ au|have bT:=E3.2 _ _ au);refine bT.mono ?_;clear bT)
   |(go_at_call 123;refine(A.2 _ _ au).mono ?_)
   |(go_at_call 122;refine(L.2 _ _ au).mono ?_)
   |(go_at_call 71;first|(have bT:=(D _).2 _ _ au;with_reducible refine bT.mono ?_;clear bT)|(have bT:=(Vaa _).2 _ _ au;with_reducible refine bT.mono ?_;clear bT)));rintro e aO ⟨rfl,aZ⟩;clear au;have au:V _:=aZ;clear aZ)
  go_ret;exact⟨rfl,au.o⟩):P:=h
theorem WkT(h:P:=by
  repeat (rw[yar]at z;refine sz2 z ?_;clear z;intro _ z)
  go_enter func72,ntmps72
  go_wp2_with (first
   |(go_at_call 33;refine(nxS au.o).mono ?_;rintro e aO ⟨rfl,aZ⟩;clear au;have au:V _:=aZ;clear aZ)
   |(go_at_call 39;refine(lfS au.o).mono ?_;rintro e aO ⟨rfl,aZ⟩;clear au;have au:V _:=aZ;clear aZ)
   |(go_at_call 72;refine(E2.2 _ _ b1).mono ?_;rintro e ag ⟨rfl,aZ⟩;clear b1;obtain⟨(b1:V _),ad⟩:=aZ.fin au.o;have bb:=ad 0 _ rfl;have aM:=ad 1 _ rfl;have aQ:=ad 2 _ rfl;have bY:=ad 3 _ rfl;have cg:=ad 4 _ rfl;have cn:=ad 5 _ rfl;have cX:=ad 6 _ rfl;clear aZ ad)
   |(go_at_call 72;refine(E1.2 _ _ (au.o.al _)).mono ?_;rintro e ag ⟨rfl,(b1:V _)⟩))
  go_ret;exact⟨rfl,b1.o⟩):P:=h
theorem In(ar:∀x∈env,x.1.length<=5)(hb:∀i,nv bs i<256)(d:Nat):d<=4->∀q:Int,1<=q/\q<=3->∀i,∃s j,Dr env bs i 72 (λX=>#[.slice X.aE X.nE X.cE,hD q,hD d,hB X.P]) (1000*4 ^ d) s j:=by
 induction d with
 |zero=>
  intro _ q am i;obtain⟨ao,bK,L⟩:=Mm ar hb q am (ni bs i);have B:=L.1;have aq:1000<=1000000:=xab;show ∃s j,Dr env bs i 72 (λX=>#[.slice X.aE X.nE X.cE,hD q,hD 0,hB X.P]) 1000 s j;exact⟨ao,bK,gn WkS aq λz X W au=>WkE⟩
 |succ d aa=>
 intro G q am i;replace aa:=aa xaa;have aq:1000*4 ^ (d+1)<=1000000:=yao (Nat.mul_le_mul_left 1000 (Nat.pow_le_pow_right xab G)) xab;have aK:1000*4 ^ (d+1)=4*(1000*4 ^ d):=hR Nat.pow_succ
 have u:1<=4 ^ d:=Nat.pos_of_ne_zero xac;generalize 1000*4 ^ (d+1)=M at aq aK⊢;generalize 4 ^ d=m at aK u aa;obtain⟨f,e,L⟩:=Mm ar hb q am (ni bs i);have bJ:=L.1;have F:¬((d:Int)+1<=0):=xaa;have r:0<(d:Int)+1:=xaa;have h:(d:Int)<=3:=xaa;rw[show((d+1:Nat):Int)=(d:Int)+1 from rfl];rcases (by omega:(nv bs i:Int)%24<4\/(¬((nv bs i:Int)%24<4)/\((bs.length:Int)=(ni bs i:Int)\/¬((bs.length:Int)=(ni bs i:Int)\/(nv bs i:Int)%24<4)))) with K|⟨K,ag|ag⟩
 ·exact⟨f,e,gn WkS aq λz X W au=>WkE⟩
 ·have g:((bs.length:Int)-(ni bs i:Int)==0)=true:=by rw[ag];simp
  exact⟨f,e,gn WkS aq λz X W au=>WkE⟩
 have g:((bs.length:Int)-(ni bs i:Int)==0)=false:=by simp only[beq_eq_false_iff_ne];omega
 clear ag;rcases (by omega:(nv bs i:Int)%24=4\/(nv bs i:Int)%24=5\/(nv bs i:Int)%24=6\/(nv bs i:Int)%24=7\/(nv bs i:Int)%24=8\/(nv bs i:Int)%24=9\/(nv bs i:Int)%24=10\/(nv bs i:Int)%24=11\/(nv bs i:Int)%24=12\/(nv bs i:Int)%24=13\/(nv bs i:Int)%24=14\/(nv bs i:Int)%24=15\/16<=(nv bs i:Int)%24) with K|K|K|K|K|K|K|K|K|K|K|K|K
 ·obtain⟨ao,bK,E1⟩:=aa (q) xaa (ni bs i);have B:=E1.1;obtain⟨aG,cr,E2⟩:=aa (q) xaa (bK);have J:=E2.1;exact⟨⟨#[40]⟩++ao++⟨#[32,43,32]⟩++aG++⟨#[41]⟩,cr,gn WkS aq λz X W au=>WkT⟩
 ·obtain⟨ao,bK,E1⟩:=aa (q) xaa (ni bs i);have B:=E1.1;obtain⟨aG,cr,E2⟩:=aa (q) xaa (bK);have J:=E2.1;exact⟨ao++⟨#[32,45,32]⟩++⟨#[40]⟩++aG++⟨#[41]⟩,cr,gn WkS aq λz X W au=>WkT⟩
 ·obtain⟨ao,bK,E1⟩:=aa (q) xaa (ni bs i);have B:=E1.1;obtain⟨aG,cr,E2⟩:=aa (q) xaa (bK);have J:=E2.1;exact⟨⟨#[40]⟩++ao++⟨#[32,42,32]⟩++aG++⟨#[41]⟩,cr,gn WkS aq λz X W au=>WkT⟩
 ·obtain⟨ao,bK,E1⟩:=aa (q) xaa (ni bs i);have B:=E1.1;obtain⟨aG,cr,E2⟩:=aa (q) xaa (bK);have J:=E2.1;exact⟨ao++⟨#[42]⟩++⟨#[40]⟩++aG++⟨#[41]⟩,cr,gn WkS aq λz X W au=>WkT⟩
 ·obtain⟨ao,bK,E1⟩:=aa (q) xaa (ni bs i);have B:=E1.1;obtain⟨aG,cr,E2⟩:=aa (q) xaa (bK);have J:=E2.1;exact⟨⟨#[40]⟩++ao++⟨#[32,47,32]⟩++aG++⟨#[41]⟩,cr,gn WkS aq λz X W au=>WkT⟩
 ·obtain⟨ao,bK,E1⟩:=aa (q) xaa (ni bs i);have B:=E1.1;obtain⟨aG,cr,E2⟩:=aa (q) xaa (bK);have J:=E2.1;exact⟨ao++⟨#[43]⟩++⟨#[40]⟩++aG++⟨#[41]⟩,cr,gn WkS aq λz X W au=>WkT⟩
 ·obtain⟨ao,bK,E1⟩:=aa (q) xaa (ni bs i);have B:=E1.1;obtain⟨aG,cr,E2⟩:=aa (1) xaa (bK);have J:=E2.1;exact⟨⟨#[40]⟩++ao++⟨#[45]⟩++aG++⟨#[41]⟩,cr,gn WkS aq λz X W au=>WkT⟩
 ·obtain⟨ao,bK,E1⟩:=aa (q) xaa (ni bs i);have B:=E1.1;exact⟨⟨#[45,40]⟩++ao++⟨#[41]⟩,bK,gn WkS aq λz X W au=>WkE⟩
 ·obtain⟨ao,bK,E1⟩:=aa (q) xaa (ni bs i);have B:=E1.1;obtain⟨aG,cr,E2⟩:=aa (1) xaa (bK);have J:=E2.1;exact⟨⟨#[109,97,120,40]⟩++ao++⟨#[44,32]⟩++aG++⟨#[41]⟩,cr,gn WkS aq λz X W au=>WkE⟩
 ·obtain⟨ao,bK,E1⟩:=aa (q) xaa (ni bs i);have B:=E1.1;obtain⟨aG,cr,E2⟩:=aa (q) xaa (bK);have J:=E2.1;obtain⟨Q,c7,E3⟩:=aa (1) xaa (cr);have h3:=E3.1;exact⟨⟨#[115,101,108,40]⟩++Q++⟨#[44,32]⟩++ao++⟨#[44,32]⟩++aG++⟨#[41]⟩,c7,gn WkS aq λz X W au=>WkE⟩
 ·obtain⟨ao,bK,E1⟩:=aa (q) xaa (ni bs i);have B:=E1.1;exact⟨⟨#[101,120,112,40]⟩++ao++⟨#[41]⟩,bK,gn WkS aq λz X W au=>WkE⟩
 ·obtain⟨aT,b9,A⟩:=olD (bs:=bs) ar (0) (ni bs i);have ae:=A.1;obtain⟨ao,bK,E1⟩:=aa (q) xaa (b9);have B:=E1.1;rcases uV aT with⟨bf,aY⟩|⟨bf,aY⟩
  ·exact⟨ao,bK,gn WkS aq λz X W au=>WkE⟩
  exact⟨aT++⟨#[40]⟩++ao++⟨#[41]⟩,bK,gn WkS aq λz X W au=>WkE⟩
 rcases (by omega:q=1\/q=2\/q=3) with rfl|rfl|rfl
 ·rcases (by omega:((nv bs i:Int)%24=16\/(nv bs i:Int)%24=17\/(nv bs i:Int)%24=18\/(nv bs i:Int)%24=19\/(nv bs i:Int)%24=20\/(nv bs i:Int)%24=21)\/((nv bs i:Int)%24=22)\/((nv bs i:Int)%24=23)) with K|K|K
  ·obtain⟨aT,b9,A⟩:=olD (bs:=bs) ar (1+(nv bs (ni bs i):Int)%3) (ni bs (ni bs i));have ae:=A.1;obtain⟨ao,bK,E1⟩:=aa (1) xaa (b9);have B:=E1.1;obtain⟨aG,cr,E2⟩:=aa (1) xaa (bK);have J:=E2.1;rcases uV aT with⟨bf,aY⟩|⟨bf,aY⟩
   ·rcases K with K|K|K|K|K|K<;>exact⟨ao,cr,gn WkS aq λz X W au=>WkE⟩
   rcases K with K|K|K|K|K|K<;>exact⟨⟨#[106,118,112,40]⟩++ao++⟨#[44,32]⟩++aT++⟨#[44,32]⟩++aG++⟨#[41]⟩,cr,gn WkS aq λz X W au=>WkE⟩
  ·obtain⟨ao,bK,E1⟩:=aa (1+(nv bs (ni bs i):Int)%3) xaa (ni bs (ni bs i));have B:=E1.1;exact⟨⟨#[115,117,109,40]⟩++ao++⟨#[41]⟩,bK,gn WkS aq λz X W au=>WkE⟩
  obtain⟨ao,bK,E1⟩:=aa (1+(nv bs (ni bs i):Int)%3) xaa (ni bs (ni bs i));have B:=E1.1;rcases (by omega:(nv bs bK:Int)%3=0\/(nv bs bK:Int)%3=1\/(nv bs bK:Int)%3=2) with an|an|an
  ·obtain⟨sv,D⟩:=dcD (env:=env) (bs:=bs) (by omega:(0:Int)<=1+(nv bs (ni bs i):Int)%3-1) xaa;have aD:=(D 0).1;exact⟨⟨#[112,105,99,107,40]⟩++ao++⟨#[44,32]⟩++sv++⟨#[41]⟩,ni bs bK,gn WkS aq λz X W au=>WkE⟩
  ·obtain⟨aG,cr,E2⟩:=aa (1+(nv bs (ni bs i):Int)%3) xaa (ni bs bK);have J:=E2.1;exact⟨⟨#[100,111,116,40]⟩++ao++⟨#[44,32]⟩++aG++⟨#[41]⟩,cr,gn WkS aq λz X W au=>WkE⟩
  obtain⟨aT,b9,A⟩:=olD (bs:=bs) ar (1) (ni bs bK);have ae:=A.1;obtain⟨aG,cr,E2⟩:=aa (1) xaa (b9);have J:=E2.1;rcases uV aT with⟨bf,aY⟩|⟨bf,aY⟩
  ·exact⟨aG,cr,gn WkS aq λz X W au=>WkE⟩
  exact⟨⟨#[103,114,97,100,40]⟩++aG++⟨#[44,32]⟩++aT++⟨#[41]⟩,cr,gn WkS aq λz X W au=>WkE⟩
 ·rcases (by omega:((nv bs i:Int)%24=16\/(nv bs i:Int)%24=17)\/((nv bs i:Int)%24=18\/(nv bs i:Int)%24=19)\/((nv bs i:Int)%24=20\/(nv bs i:Int)%24=21)\/((nv bs i:Int)%24=22\/(nv bs i:Int)%24=23)) with K|K|K|K
  ·obtain⟨aT,b9,A⟩:=olD (bs:=bs) ar (2) (ni bs i);have ae:=A.1;obtain⟨ao,bK,E1⟩:=aa (1) xaa (b9);have B:=E1.1;obtain⟨sv,D⟩:=dcD (env:=env) (bs:=bs) (by omega:(0:Int)<=((nv bs bK:Int)%2)) xaa;obtain⟨c,Vaa⟩:=dcD (env:=env) (bs:=bs) (by omega:(0:Int)<=2) xaa;exact xda
  ·obtain⟨aT,b9,A⟩:=olD (bs:=bs) ar (2) (ni bs i);have ae:=A.1;obtain⟨ao,bK,E1⟩:=aa (1) xaa (b9);have B:=E1.1;obtain⟨sv,D⟩:=dcD (env:=env) (bs:=bs) (by omega:(0:Int)<=((nv bs bK:Int)%2)) xaa;obtain⟨c,Vaa⟩:=dcD (env:=env) (bs:=bs) (by omega:(0:Int)<=2) xaa;exact xcz
  ·obtain⟨aT,b9,A⟩:=olD (bs:=bs) ar (1+(nv bs (ni bs i):Int)%3) (ni bs (ni bs i));have ae:=A.1;obtain⟨ao,bK,E1⟩:=aa (2) xaa (b9);exact xdg
  rcases K with K|K<;>exact⟨f,e,gn WkS aq λz X W au=>WkE⟩
 rcases (by omega:((nv bs i:Int)%24=16\/(nv bs i:Int)%24=17)\/((nv bs i:Int)%24=18\/(nv bs i:Int)%24=19)\/((nv bs i:Int)%24=20\/(nv bs i:Int)%24=21)\/((nv bs i:Int)%24=22\/(nv bs i:Int)%24=23)) with K|K|K|K
 ·obtain⟨aT,b9,A⟩:=olD (bs:=bs) ar (3) (ni bs i);have ae:=A.1;obtain⟨ao,bK,E1⟩:=aa (1) xaa (b9);have B:=E1.1;obtain⟨sv,D⟩:=dcD (env:=env) (bs:=bs) (by omega:(0:Int)<=((nv bs bK:Int)%3)) xaa;obtain⟨c,Vaa⟩:=dcD (env:=env) (bs:=bs) (by omega:(0:Int)<=3) xaa;exact xda
 ·obtain⟨aT,b9,A⟩:=olD (bs:=bs) ar (3) (ni bs i);have ae:=A.1;obtain⟨ao,bK,E1⟩:=aa (1) xaa (b9);have B:=E1.1;obtain⟨sv,D⟩:=dcD (env:=env) (bs:=bs) (by omega:(0:Int)<=((nv bs bK:Int)%3)) xaa;obtain⟨c,Vaa⟩:=dcD (env:=env) (bs:=bs) (by omega:(0:Int)<=3) xaa;exact xcz
 ·obtain⟨aT,b9,A⟩:=olD (bs:=bs) ar (1+(nv bs (ni bs i):Int)%3) (ni bs (ni bs i));have ae:=A.1;obtain⟨ao,bK,E1⟩:=aa (3) xaa (b9);exact xdg
 rcases K with K|K<;>exact⟨f,e,gn WkS aq λz X W au=>WkE⟩
