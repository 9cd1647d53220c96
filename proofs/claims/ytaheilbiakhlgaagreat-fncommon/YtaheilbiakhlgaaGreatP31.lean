import Derived.Test.YtaheilbiakhlgaaGreatP30
namespace Go.Proofs.Z
open Tryz
set_option maxRecDepth 1000000
set_option maxHeartbeats 0
open Go.RowKit Flt
attribute[local go_sem] eF eE eD
variable{P:Prop}
variable{X:Xd}{W W':World}{env:List (List UInt8×Int)}{bs:List Int}{i j:Nat}
theorem Sd.al(h:Sd X env bs i W)(o):V (Sd {X with w:=W.alloc o} env bs i (W.alloc o)):=⟨h.rd.keep0 (ez 0 0 _ _),h.en.keep0 (ez 0 0 _ _),Kept.refl _ _ _⟩
theorem Sd.fin{cs p}(h3:Sd {X with w:=W.alloc (.cells cs p)} env bs j W')(h:Sd X env bs i W):Sd X env bs j W'/\∀m v,cs[m]? =some v->W'.cell? ⟨W.heap.size,m,none⟩=some v:=
 ⟨⟨h3.rd,h3.en,h.kp.trans ((ft (ez 0 0 _ _)).trans h3.kp)⟩,λm v e=>by
   have aF:=h.rd.lt
   rw[h3.kp.cell (p:=⟨W.heap.size,m,none⟩) xac (by show ¬(X.P<=W.heap.size/\W.heap.size<X.P+1);omega),yau,e]⟩
theorem WkS(h:P:=by(try simp only[yaq,gu,yap,List.length_nil]);omega):P:=h
theorem WkE(h:P:=by
  repeat (rw[yaq]at z;refine sz2 z ?_;clear z;intro _ z)
  go_enter func64,ntmps64
  go_wp2_with ((first
   |(go_at_call 32;refine(nxS au.o).mono ?_)
   |(go_at_call 38;refine(lfS au.o).mono ?_)
   |(go_at_call 64;(first|have al:=E1.2 _ _ au|have al:=E2.2 _ _ au|have al:=E3.2 _ _ au);refine al.mono ?_;clear al)
   |(go_at_call 108;refine(A.2 _ _ au).mono ?_)
   |(go_at_call 107;refine(L.2 _ _ au).mono ?_)
   |(go_at_call 63;first|(have al:=(D _).2 _ _ au;with_reducible refine al.mono ?_;clear al)|(have al:=(Vaa _).2 _ _ au;with_reducible refine al.mono ?_;clear al)));rintro e aG ⟨rfl,aU⟩;clear au;have au:V _:=aU;clear aU)
  go_ret;exact⟨rfl,au.o⟩):P:=h
theorem WkT(h:P:=by
  repeat (rw[yaq]at z;refine sz2 z ?_;clear z;intro _ z)
  go_enter func64,ntmps64
  go_wp2_with (first
   |(go_at_call 32;refine(nxS au.o).mono ?_;rintro e aG ⟨rfl,aU⟩;clear au;have au:V _:=aU;clear aU)
   |(go_at_call 38;refine(lfS au.o).mono ?_;rintro e aG ⟨rfl,aU⟩;clear au;have au:V _:=aU;clear aU)
   |(go_at_call 64;refine(E2.2 _ _ ba).mono ?_;rintro e ag ⟨rfl,aU⟩;clear ba;obtain⟨(ba:V _),ak⟩:=aU.fin au.o;have bd:=ak 0 _ rfl;have aR:=ak 1 _ rfl;have aV:=ak 2 _ rfl;have bY:=ak 3 _ rfl;have ce:=ak 4 _ rfl;have cl:=ak 5 _ rfl;have cV:=ak 6 _ rfl;clear aU ak)
   |(go_at_call 64;refine(E1.2 _ _ (au.o.al _)).mono ?_;rintro e ag ⟨rfl,(ba:V _)⟩))
  go_ret;exact⟨rfl,ba.o⟩):P:=h
theorem Gg(b3:∀x∈env,x.1.length<=5)(hb:∀i,nv bs i<256)(d:Nat):d<=4->∀q:Int,1<=q/\q<=3->∀i,∃s j,Dr env bs i 64 (λX=>#[.slice X.aE X.nE X.cE,hF q,hF d,hD X.P]) (1000*4 ^ d) s j:=by
 induction d with
 |zero=>
  intro _ q ao i;obtain⟨aq,Q,L⟩:=Ly b3 hb q ao (ni bs i);have B:=L.1;have aw:1000<=1000000:=xab;show ∃s j,Dr env bs i 64 (λX=>#[.slice X.aE X.nE X.cE,hF q,hF 0,hD X.P]) 1000 s j;exact⟨aq,Q,gD WkS aw λz X W au=>WkE⟩
 |succ d al=>
 intro G q ao i;replace al:=al xaa;have aw:1000*4 ^ (d+1)<=1000000:=yan (Nat.mul_le_mul_left 1000 (Nat.pow_le_pow_right xab G)) xab;have aF:1000*4 ^ (d+1)=4*(1000*4 ^ d):=hT Nat.pow_succ
 have v:1<=4 ^ d:=Nat.pos_of_ne_zero xac;generalize 1000*4 ^ (d+1)=M at aw aF⊢;generalize 4 ^ d=m at aF v al;obtain⟨g,f,L⟩:=Ly b3 hb q ao (ni bs i);have bQ:=L.1;have y:¬((d:Int)+1<=0):=xaa;have r:0<(d:Int)+1:=xaa;have l:(d:Int)<=3:=xaa;rw[show((d+1:Nat):Int)=(d:Int)+1 from rfl];rcases (by omega:(nv bs i:Int)%24<4\/(¬((nv bs i:Int)%24<4)/\((bs.length:Int)=(ni bs i:Int)\/¬((bs.length:Int)=(ni bs i:Int)\/(nv bs i:Int)%24<4)))) with K|⟨K,am|am⟩
 ·exact⟨g,f,gD WkS aw λz X W au=>WkE⟩
 ·have h:((bs.length:Int)-(ni bs i:Int)==0)=true:=by rw[am];simp
  exact⟨g,f,gD WkS aw λz X W au=>WkE⟩
 have h:((bs.length:Int)-(ni bs i:Int)==0)=false:=by simp only[beq_eq_false_iff_ne];omega
 clear am;rcases (by omega:(nv bs i:Int)%24=4\/(nv bs i:Int)%24=5\/(nv bs i:Int)%24=6\/(nv bs i:Int)%24=7\/(nv bs i:Int)%24=8\/(nv bs i:Int)%24=9\/(nv bs i:Int)%24=10\/(nv bs i:Int)%24=11\/(nv bs i:Int)%24=12\/(nv bs i:Int)%24=13\/(nv bs i:Int)%24=14\/(nv bs i:Int)%24=15\/16<=(nv bs i:Int)%24) with K|K|K|K|K|K|K|K|K|K|K|K|K
 ·obtain⟨aq,Q,E1⟩:=al (q) xaa (ni bs i);have B:=E1.1;obtain⟨aN,bh,E2⟩:=al (q) xaa (Q);have U:=E2.1;exact⟨⟨#[40]⟩++aq++⟨#[32,43,32]⟩++aN++⟨#[41]⟩,bh,gD WkS aw λz X W au=>WkT⟩
 ·obtain⟨aq,Q,E1⟩:=al (q) xaa (ni bs i);have B:=E1.1;obtain⟨aN,bh,E2⟩:=al (q) xaa (Q);have U:=E2.1;exact⟨aq++⟨#[32,45,32]⟩++⟨#[40]⟩++aN++⟨#[41]⟩,bh,gD WkS aw λz X W au=>WkT⟩
 ·obtain⟨aq,Q,E1⟩:=al (q) xaa (ni bs i);have B:=E1.1;obtain⟨aN,bh,E2⟩:=al (q) xaa (Q);have U:=E2.1;exact⟨⟨#[40]⟩++aq++⟨#[32,42,32]⟩++aN++⟨#[41]⟩,bh,gD WkS aw λz X W au=>WkT⟩
 ·obtain⟨aq,Q,E1⟩:=al (q) xaa (ni bs i);have B:=E1.1;obtain⟨aN,bh,E2⟩:=al (q) xaa (Q);have U:=E2.1;exact⟨aq++⟨#[42]⟩++⟨#[40]⟩++aN++⟨#[41]⟩,bh,gD WkS aw λz X W au=>WkT⟩
 ·obtain⟨aq,Q,E1⟩:=al (q) xaa (ni bs i);have B:=E1.1;obtain⟨aN,bh,E2⟩:=al (q) xaa (Q);have U:=E2.1;exact⟨⟨#[40]⟩++aq++⟨#[32,47,32]⟩++aN++⟨#[41]⟩,bh,gD WkS aw λz X W au=>WkT⟩
 ·obtain⟨aq,Q,E1⟩:=al (q) xaa (ni bs i);have B:=E1.1;obtain⟨aN,bh,E2⟩:=al (q) xaa (Q);have U:=E2.1;exact⟨aq++⟨#[43]⟩++⟨#[40]⟩++aN++⟨#[41]⟩,bh,gD WkS aw λz X W au=>WkT⟩
 ·obtain⟨aq,Q,E1⟩:=al (q) xaa (ni bs i);have B:=E1.1;obtain⟨aN,bh,E2⟩:=al (1) xaa (Q);have U:=E2.1;exact⟨⟨#[40]⟩++aq++⟨#[45]⟩++aN++⟨#[41]⟩,bh,gD WkS aw λz X W au=>WkT⟩
 ·obtain⟨aq,Q,E1⟩:=al (q) xaa (ni bs i);have B:=E1.1;exact⟨⟨#[45,40]⟩++aq++⟨#[41]⟩,Q,gD WkS aw λz X W au=>WkE⟩
 ·obtain⟨aq,Q,E1⟩:=al (q) xaa (ni bs i);have B:=E1.1;obtain⟨aN,bh,E2⟩:=al (1) xaa (Q);have U:=E2.1;exact⟨⟨#[109,97,120,40]⟩++aq++⟨#[44,32]⟩++aN++⟨#[41]⟩,bh,gD WkS aw λz X W au=>WkE⟩
 ·obtain⟨aq,Q,E1⟩:=al (q) xaa (ni bs i);have B:=E1.1;obtain⟨aN,bh,E2⟩:=al (q) xaa (Q);have U:=E2.1;obtain⟨bA,cJ,E3⟩:=al (1) xaa (bh);have h3:=E3.1;exact⟨⟨#[115,101,108,40]⟩++bA++⟨#[44,32]⟩++aq++⟨#[44,32]⟩++aN++⟨#[41]⟩,cJ,gD WkS aw λz X W au=>WkE⟩
 ·obtain⟨aq,Q,E1⟩:=al (q) xaa (ni bs i);have B:=E1.1;exact⟨⟨#[101,120,112,40]⟩++aq++⟨#[41]⟩,Q,gD WkS aw λz X W au=>WkE⟩
 ·obtain⟨aW,b8,A⟩:=olD (bs:=bs) b3 (0) (ni bs i);have ai:=A.1;obtain⟨aq,Q,E1⟩:=al (q) xaa (b8);have B:=E1.1;rcases uq aW with⟨bf,aX⟩|⟨bf,aX⟩
  ·exact⟨aq,Q,gD WkS aw λz X W au=>WkE⟩
  exact⟨aW++⟨#[40]⟩++aq++⟨#[41]⟩,Q,gD WkS aw λz X W au=>WkE⟩
 rcases (by omega:q=1\/q=2\/q=3) with rfl|rfl|rfl
 ·rcases (by omega:((nv bs i:Int)%24=16\/(nv bs i:Int)%24=17\/(nv bs i:Int)%24=18\/(nv bs i:Int)%24=19\/(nv bs i:Int)%24=20\/(nv bs i:Int)%24=21)\/((nv bs i:Int)%24=22)\/((nv bs i:Int)%24=23)) with K|K|K
  ·obtain⟨aW,b8,A⟩:=olD (bs:=bs) b3 (1+(nv bs (ni bs i):Int)%3) (ni bs (ni bs i));have ai:=A.1;obtain⟨aq,Q,E1⟩:=al (1) xaa (b8);have B:=E1.1;obtain⟨aN,bh,E2⟩:=al (1) xaa (Q);have U:=E2.1;rcases uq aW with⟨bf,aX⟩|⟨bf,aX⟩
   ·rcases K with K|K|K|K|K|K<;>exact⟨aq,bh,gD WkS aw λz X W au=>WkE⟩
   rcases K with K|K|K|K|K|K<;>exact⟨⟨#[106,118,112,40]⟩++aq++⟨#[44,32]⟩++aW++⟨#[44,32]⟩++aN++⟨#[41]⟩,bh,gD WkS aw λz X W au=>WkE⟩
  ·obtain⟨aq,Q,E1⟩:=al (1+(nv bs (ni bs i):Int)%3) xaa (ni bs (ni bs i));have B:=E1.1;exact⟨⟨#[115,117,109,40]⟩++aq++⟨#[41]⟩,Q,gD WkS aw λz X W au=>WkE⟩
  obtain⟨aq,Q,E1⟩:=al (1+(nv bs (ni bs i):Int)%3) xaa (ni bs (ni bs i));have B:=E1.1;rcases (by omega:(nv bs Q:Int)%3=0\/(nv bs Q:Int)%3=1\/(nv bs Q:Int)%3=2) with ar|ar|ar
  ·obtain⟨sv,D⟩:=dcD (env:=env) (bs:=bs) (by omega:(0:Int)<=1+(nv bs (ni bs i):Int)%3-1) xaa;have aM:=(D 0).1;exact⟨⟨#[112,105,99,107,40]⟩++aq++⟨#[44,32]⟩++sv++⟨#[41]⟩,ni bs Q,gD WkS aw λz X W au=>WkE⟩
  ·obtain⟨aN,bh,E2⟩:=al (1+(nv bs (ni bs i):Int)%3) xaa (ni bs Q);have U:=E2.1;exact⟨⟨#[100,111,116,40]⟩++aq++⟨#[44,32]⟩++aN++⟨#[41]⟩,bh,gD WkS aw λz X W au=>WkE⟩
  obtain⟨aW,b8,A⟩:=olD (bs:=bs) b3 (1) (ni bs Q);have ai:=A.1;obtain⟨aN,bh,E2⟩:=al (1) xaa (b8);have U:=E2.1;rcases uq aW with⟨bf,aX⟩|⟨bf,aX⟩
  ·exact⟨aN,bh,gD WkS aw λz X W au=>WkE⟩
  exact⟨⟨#[103,114,97,100,40]⟩++aN++⟨#[44,32]⟩++aW++⟨#[41]⟩,bh,gD WkS aw λz X W au=>WkE⟩
 ·rcases (by omega:((nv bs i:Int)%24=16\/(nv bs i:Int)%24=17)\/((nv bs i:Int)%24=18\/(nv bs i:Int)%24=19)\/((nv bs i:Int)%24=20\/(nv bs i:Int)%24=21)\/((nv bs i:Int)%24=22\/(nv bs i:Int)%24=23)) with K|K|K|K
  ·obtain⟨aW,b8,A⟩:=olD (bs:=bs) b3 (2) (ni bs i);have ai:=A.1;obtain⟨aq,Q,E1⟩:=al (1) xaa (b8);have B:=E1.1;obtain⟨sv,D⟩:=dcD (env:=env) (bs:=bs) (by omega:(0:Int)<=((nv bs Q:Int)%2)) xaa;obtain⟨e,Vaa⟩:=dcD (env:=env) (bs:=bs) (by omega:(0:Int)<=2) xaa;exact xdy
  ·obtain⟨aW,b8,A⟩:=olD (bs:=bs) b3 (2) (ni bs i);have ai:=A.1;obtain⟨aq,Q,E1⟩:=al (1) xaa (b8);have B:=E1.1;obtain⟨sv,D⟩:=dcD (env:=env) (bs:=bs) (by omega:(0:Int)<=((nv bs Q:Int)%2)) xaa;obtain⟨e,Vaa⟩:=dcD (env:=env) (bs:=bs) (by omega:(0:Int)<=2) xaa;exact xdu
  ·obtain⟨aW,b8,A⟩:=olD (bs:=bs) b3 (1+(nv bs (ni bs i):Int)%3) (ni bs (ni bs i));have ai:=A.1;obtain⟨aq,Q,E1⟩:=al (2) xaa (b8);exact xel
  rcases K with K|K<;>exact⟨g,f,gD WkS aw λz X W au=>WkE⟩
 rcases (by omega:((nv bs i:Int)%24=16\/(nv bs i:Int)%24=17)\/((nv bs i:Int)%24=18\/(nv bs i:Int)%24=19)\/((nv bs i:Int)%24=20\/(nv bs i:Int)%24=21)\/((nv bs i:Int)%24=22\/(nv bs i:Int)%24=23)) with K|K|K|K
 ·obtain⟨aW,b8,A⟩:=olD (bs:=bs) b3 (3) (ni bs i);have ai:=A.1;obtain⟨aq,Q,E1⟩:=al (1) xaa (b8);have B:=E1.1;obtain⟨sv,D⟩:=dcD (env:=env) (bs:=bs) (by omega:(0:Int)<=((nv bs Q:Int)%3)) xaa;obtain⟨e,Vaa⟩:=dcD (env:=env) (bs:=bs) (by omega:(0:Int)<=3) xaa;exact xdy
 ·obtain⟨aW,b8,A⟩:=olD (bs:=bs) b3 (3) (ni bs i);have ai:=A.1;obtain⟨aq,Q,E1⟩:=al (1) xaa (b8);have B:=E1.1;obtain⟨sv,D⟩:=dcD (env:=env) (bs:=bs) (by omega:(0:Int)<=((nv bs Q:Int)%3)) xaa;obtain⟨e,Vaa⟩:=dcD (env:=env) (bs:=bs) (by omega:(0:Int)<=3) xaa;exact xdu
 ·obtain⟨aW,b8,A⟩:=olD (bs:=bs) b3 (1+(nv bs (ni bs i):Int)%3) (ni bs (ni bs i));have ai:=A.1;obtain⟨aq,Q,E1⟩:=al (3) xaa (b8);exact xel
 rcases K with K|K<;>exact⟨g,f,gD WkS aw λz X W au=>WkE⟩
