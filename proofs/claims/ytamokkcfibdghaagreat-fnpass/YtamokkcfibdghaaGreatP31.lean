import Derived.Test.YtamokkcfibdghaaGreatP27
namespace Go.Proofs.Z
open Tryz
set_option maxRecDepth 1000000
set_option maxHeartbeats 0
open Go.RowKit Flt
attribute [local go_sem] eG eE eD
variable {P:Prop}
variable {X:Xd}{W W':World}{env:List (List UInt8×Int)}{bs:List Int}{i j:Nat}
theorem Sd.al(h:Sd X env bs i W)(o):V (Sd {X with w:=W.alloc o} env bs i (W.alloc o)):=⟨h.rd.keep0 (ez 0 0 _ _),h.en.keep0 (ez 0 0 _ _),Kept.refl _ _ _⟩
theorem Sd.fin{cs p}(h3:Sd {X with w:=W.alloc (.cells cs p)} env bs j W')(h:Sd X env bs i W):Sd X env bs j W'/\∀m v,cs[m]? =some v->W'.cell? ⟨W.heap.size,m,none⟩=some v:=
 ⟨⟨h3.rd,h3.en,h.kp.trans ((fw (ez 0 0 _ _)).trans h3.kp)⟩,λm v e=>by
   have aK:=h.rd.lt
   rw[h3.kp.cell (p:=⟨W.heap.size,m,none⟩) xac (by show ¬(X.P<=W.heap.size/\W.heap.size<X.P+1);omega),yau,e]⟩
theorem WkS(h:P:=by(try simp only[yaq,gl,yap,List.length_nil]);omega):P:=h
theorem WkE(h:P:=by
  repeat (rw[yaq]at z;refine sz2 z ?_;clear z;intro _ z)
  go_enter func58,ntmps58
  go_wp2_with ((first
   |(go_at_call 13;refine(nxS aw.o).mono ?_)
   |(go_at_call 33;refine(lfS aw.o).mono ?_)
   |(go_at_call 58;(first|have ap:=E1.2 _ _ aw|have ap:=E2.2 _ _ aw|have ap:=E3.2 _ _ aw);refine ap.mono ?_;clear ap)
   |(go_at_call 98;refine(A.2 _ _ aw).mono ?_)
   |(go_at_call 97;refine(L.2 _ _ aw).mono ?_)
   |(go_at_call 57;first|(have ap:=(D _).2 _ _ aw;with_reducible refine ap.mono ?_;clear ap)|(have ap:=(Vaa _).2 _ _ aw;with_reducible refine ap.mono ?_;clear ap)));rintro e aB ⟨rfl,aT⟩;clear aw;have aw:V _:=aT;clear aT)
  go_ret;exact⟨rfl,aw.o⟩):P:=h
theorem WkT(h:P:=by
  repeat (rw[yaq]at z;refine sz2 z ?_;clear z;intro _ z)
  go_enter func58,ntmps58
  go_wp2_with (first
   |(go_at_call 13;refine(nxS aw.o).mono ?_;rintro e aB ⟨rfl,aT⟩;clear aw;have aw:V _:=aT;clear aT)
   |(go_at_call 33;refine(lfS aw.o).mono ?_;rintro e aB ⟨rfl,aT⟩;clear aw;have aw:V _:=aT;clear aT)
   |(go_at_call 58;refine(E2.2 _ _ bP).mono ?_;rintro e af ⟨rfl,aT⟩;clear bP;obtain⟨(bP:V _),ai⟩:=aT.fin aw.o;have bh:=ai 0 _ rfl;have aU:=ai 1 _ rfl;have aY:=ai 2 _ rfl;have bW:=ai 3 _ rfl;have b9:=ai 4 _ rfl;have cj:=ai 5 _ rfl;have cU:=ai 6 _ rfl;clear aT ai)
   |(go_at_call 58;refine(E1.2 _ _ (aw.o.al _)).mono ?_;rintro e af ⟨rfl,(bP:V _)⟩))
  go_ret;exact⟨rfl,bP.o⟩):P:=h
theorem GK(b2:∀x∈env,x.1.length<=5)(hb:∀i,nv bs i<256)(d:Nat):d<=4->∀q:Int,1<=q/\q<=3->∀i,∃s j,Dr env bs i 58 (λX=>#[.slice X.aE X.nE X.cE,hI q,hI d,hG X.P]) (1000*4 ^ d) s j:=by
 induction d with
 |zero=>
  intro _ q aq i;obtain⟨ax,bi,L⟩:=LO b2 hb q aq (ni bs i);have B:=L.1;have az:1000<=1000000:=xab;show ∃s j,Dr env bs i 58 (λX=>#[.slice X.aE X.nE X.cE,hI q,hI 0,hG X.P]) 1000 s j;exact⟨ax,bi,gu WkS az λz X W aw=>WkE⟩
 |succ d ag=>
 intro aV q aq i;replace ag:=ag xaa;have az:1000*4 ^ (d+1)<=1000000:=yan (Nat.mul_le_mul_left 1000 (Nat.pow_le_pow_right xab aV)) xab;have aK:1000*4 ^ (d+1)=4*(1000*4 ^ d):=hW Nat.pow_succ
 have v:1<=4 ^ d:=Nat.pos_of_ne_zero xac;generalize 1000*4 ^ (d+1)=M at az aK⊢;generalize 4 ^ d=m at aK v ag;obtain⟨g,f,L⟩:=LO b2 hb q aq (ni bs i);have bO:=L.1;have y:¬((d:Int)+1<=0):=xaa;have r:0<(d:Int)+1:=xaa;have l:(d:Int)<=3:=xaa;rw[show((d+1:Nat):Int)=(d:Int)+1 from rfl];rcases (by omega:(nv bs i:Int)%24<4\/(¬((nv bs i:Int)%24<4)/\((bs.length:Int)=(ni bs i:Int)\/¬((bs.length:Int)=(ni bs i:Int)\/(nv bs i:Int)%24<4)))) with K|⟨K,Z|Z⟩
 ·exact⟨g,f,gu WkS az λz X W aw=>WkE⟩
 ·have h:((bs.length:Int)-(ni bs i:Int)==0)=true:=by rw[Z];simp
  exact⟨g,f,gu WkS az λz X W aw=>WkE⟩
 have h:((bs.length:Int)-(ni bs i:Int)==0)=false:=by simp only[beq_eq_false_iff_ne];omega
 clear Z;rcases (by omega:(nv bs i:Int)%24=4\/(nv bs i:Int)%24=5\/(nv bs i:Int)%24=6\/(nv bs i:Int)%24=7\/(nv bs i:Int)%24=8\/(nv bs i:Int)%24=9\/(nv bs i:Int)%24=10\/(nv bs i:Int)%24=11\/(nv bs i:Int)%24=12\/(nv bs i:Int)%24=13\/(nv bs i:Int)%24=14\/(nv bs i:Int)%24=15\/16<=(nv bs i:Int)%24) with K|K|K|K|K|K|K|K|K|K|K|K|K
 ·obtain⟨ax,bi,E1⟩:=ag (q) xaa (ni bs i);have B:=E1.1;obtain⟨aN,ce,E2⟩:=ag (q) xaa (bi);have R:=E2.1;exact⟨⟨#[40]⟩++ax++⟨#[32,43,32]⟩++aN++⟨#[41]⟩,ce,gu WkS az λz X W aw=>WkT⟩
 ·obtain⟨ax,bi,E1⟩:=ag (q) xaa (ni bs i);have B:=E1.1;obtain⟨aN,ce,E2⟩:=ag (q) xaa (bi);have R:=E2.1;exact⟨ax++⟨#[32,45,32]⟩++⟨#[40]⟩++aN++⟨#[41]⟩,ce,gu WkS az λz X W aw=>WkT⟩
 ·obtain⟨ax,bi,E1⟩:=ag (q) xaa (ni bs i);have B:=E1.1;obtain⟨aN,ce,E2⟩:=ag (q) xaa (bi);have R:=E2.1;exact⟨⟨#[40]⟩++ax++⟨#[32,42,32]⟩++aN++⟨#[41]⟩,ce,gu WkS az λz X W aw=>WkT⟩
 ·obtain⟨ax,bi,E1⟩:=ag (q) xaa (ni bs i);have B:=E1.1;obtain⟨aN,ce,E2⟩:=ag (q) xaa (bi);have R:=E2.1;exact⟨ax++⟨#[42]⟩++⟨#[40]⟩++aN++⟨#[41]⟩,ce,gu WkS az λz X W aw=>WkT⟩
 ·obtain⟨ax,bi,E1⟩:=ag (q) xaa (ni bs i);have B:=E1.1;obtain⟨aN,ce,E2⟩:=ag (q) xaa (bi);have R:=E2.1;exact⟨⟨#[40]⟩++ax++⟨#[32,47,32]⟩++aN++⟨#[41]⟩,ce,gu WkS az λz X W aw=>WkT⟩
 ·obtain⟨ax,bi,E1⟩:=ag (q) xaa (ni bs i);have B:=E1.1;obtain⟨aN,ce,E2⟩:=ag (q) xaa (bi);have R:=E2.1;exact⟨ax++⟨#[43]⟩++⟨#[40]⟩++aN++⟨#[41]⟩,ce,gu WkS az λz X W aw=>WkT⟩
 ·obtain⟨ax,bi,E1⟩:=ag (q) xaa (ni bs i);have B:=E1.1;obtain⟨aN,ce,E2⟩:=ag (1) xaa (bi);have R:=E2.1;exact⟨⟨#[40]⟩++ax++⟨#[45]⟩++aN++⟨#[41]⟩,ce,gu WkS az λz X W aw=>WkT⟩
 ·obtain⟨ax,bi,E1⟩:=ag (q) xaa (ni bs i);have B:=E1.1;exact⟨⟨#[45,40]⟩++ax++⟨#[41]⟩,bi,gu WkS az λz X W aw=>WkE⟩
 ·obtain⟨ax,bi,E1⟩:=ag (q) xaa (ni bs i);have B:=E1.1;obtain⟨aN,ce,E2⟩:=ag (1) xaa (bi);have R:=E2.1;exact⟨⟨#[109,97,120,40]⟩++ax++⟨#[44,32]⟩++aN++⟨#[41]⟩,ce,gu WkS az λz X W aw=>WkE⟩
 ·obtain⟨ax,bi,E1⟩:=ag (q) xaa (ni bs i);have B:=E1.1;obtain⟨aN,ce,E2⟩:=ag (q) xaa (bi);have R:=E2.1;obtain⟨bC,cF,E3⟩:=ag (1) xaa (ce);have h3:=E3.1;exact⟨⟨#[115,101,108,40]⟩++bC++⟨#[44,32]⟩++ax++⟨#[44,32]⟩++aN++⟨#[41]⟩,cF,gu WkS az λz X W aw=>WkE⟩
 ·obtain⟨ax,bi,E1⟩:=ag (q) xaa (ni bs i);have B:=E1.1;exact⟨⟨#[101,120,112,40]⟩++ax++⟨#[41]⟩,bi,gu WkS az λz X W aw=>WkE⟩
 ·obtain⟨s0,b4,A⟩:=olD (bs:=bs) b2 (0) (ni bs i);have aj:=A.1;obtain⟨ax,bi,E1⟩:=ag (q) xaa (b4);have B:=E1.1;rcases uH s0 with⟨bj,a6⟩|⟨bj,a6⟩
  ·exact⟨ax,bi,gu WkS az λz X W aw=>WkE⟩
  exact⟨s0++⟨#[40]⟩++ax++⟨#[41]⟩,bi,gu WkS az λz X W aw=>WkE⟩
 rcases (by omega:q=1\/q=2\/q=3) with rfl|rfl|rfl
 ·rcases (by omega:((nv bs i:Int)%24=16\/(nv bs i:Int)%24=17\/(nv bs i:Int)%24=18\/(nv bs i:Int)%24=19\/(nv bs i:Int)%24=20\/(nv bs i:Int)%24=21)\/((nv bs i:Int)%24=22)\/((nv bs i:Int)%24=23)) with K|K|K
  ·obtain⟨s0,b4,A⟩:=olD (bs:=bs) b2 (1+(nv bs (ni bs i):Int)%3) (ni bs (ni bs i));have aj:=A.1;obtain⟨ax,bi,E1⟩:=ag (1) xaa (b4);have B:=E1.1;obtain⟨aN,ce,E2⟩:=ag (1) xaa (bi);have R:=E2.1;rcases uH s0 with⟨bj,a6⟩|⟨bj,a6⟩
   ·rcases K with K|K|K|K|K|K<;>exact⟨ax,ce,gu WkS az λz X W aw=>WkE⟩
   rcases K with K|K|K|K|K|K<;>exact⟨⟨#[106,118,112,40]⟩++ax++⟨#[44,32]⟩++s0++⟨#[44,32]⟩++aN++⟨#[41]⟩,ce,gu WkS az λz X W aw=>WkE⟩
  ·obtain⟨ax,bi,E1⟩:=ag (1+(nv bs (ni bs i):Int)%3) xaa (ni bs (ni bs i));have B:=E1.1;exact⟨⟨#[115,117,109,40]⟩++ax++⟨#[41]⟩,bi,gu WkS az λz X W aw=>WkE⟩
  obtain⟨ax,bi,E1⟩:=ag (1+(nv bs (ni bs i):Int)%3) xaa (ni bs (ni bs i));have B:=E1.1;rcases (by omega:(nv bs bi:Int)%3=0\/(nv bs bi:Int)%3=1\/(nv bs bi:Int)%3=2) with aH|aH|aH
  ·obtain⟨sv,D⟩:=dcD (env:=env) (bs:=bs) (by omega:(0:Int)<=1+(nv bs (ni bs i):Int)%3-1) xaa;have aL:=(D 0).1;exact⟨⟨#[112,105,99,107,40]⟩++ax++⟨#[44,32]⟩++sv++⟨#[41]⟩,ni bs bi,gu WkS az λz X W aw=>WkE⟩
  ·obtain⟨aN,ce,E2⟩:=ag (1+(nv bs (ni bs i):Int)%3) xaa (ni bs bi);have R:=E2.1;exact⟨⟨#[100,111,116,40]⟩++ax++⟨#[44,32]⟩++aN++⟨#[41]⟩,ce,gu WkS az λz X W aw=>WkE⟩
  obtain⟨s0,b4,A⟩:=olD (bs:=bs) b2 (1) (ni bs bi);have aj:=A.1;obtain⟨aN,ce,E2⟩:=ag (1) xaa (b4);have R:=E2.1;rcases uH s0 with⟨bj,a6⟩|⟨bj,a6⟩
  ·exact⟨aN,ce,gu WkS az λz X W aw=>WkE⟩
  exact⟨⟨#[103,114,97,100,40]⟩++aN++⟨#[44,32]⟩++s0++⟨#[41]⟩,ce,gu WkS az λz X W aw=>WkE⟩
 ·rcases (by omega:((nv bs i:Int)%24=16\/(nv bs i:Int)%24=17)\/((nv bs i:Int)%24=18\/(nv bs i:Int)%24=19)\/((nv bs i:Int)%24=20\/(nv bs i:Int)%24=21)\/((nv bs i:Int)%24=22\/(nv bs i:Int)%24=23)) with K|K|K|K
  ·obtain⟨s0,b4,A⟩:=olD (bs:=bs) b2 (2) (ni bs i);have aj:=A.1;obtain⟨ax,bi,E1⟩:=ag (1) xaa (b4);have B:=E1.1;obtain⟨sv,D⟩:=dcD (env:=env) (bs:=bs) (by omega:(0:Int)<=((nv bs bi:Int)%2)) xaa;obtain⟨e,Vaa⟩:=dcD (env:=env) (bs:=bs) (by omega:(0:Int)<=2) xaa;exact xdy
  ·obtain⟨s0,b4,A⟩:=olD (bs:=bs) b2 (2) (ni bs i);have aj:=A.1;obtain⟨ax,bi,E1⟩:=ag (1) xaa (b4);have B:=E1.1;obtain⟨sv,D⟩:=dcD (env:=env) (bs:=bs) (by omega:(0:Int)<=((nv bs bi:Int)%2)) xaa;obtain⟨e,Vaa⟩:=dcD (env:=env) (bs:=bs) (by omega:(0:Int)<=2) xaa;exact xdv
  ·obtain⟨s0,b4,A⟩:=olD (bs:=bs) b2 (1+(nv bs (ni bs i):Int)%3) (ni bs (ni bs i));have aj:=A.1;obtain⟨ax,bi,E1⟩:=ag (2) xaa (b4);exact xem
  rcases K with K|K<;>exact⟨g,f,gu WkS az λz X W aw=>WkE⟩
 rcases (by omega:((nv bs i:Int)%24=16\/(nv bs i:Int)%24=17)\/((nv bs i:Int)%24=18\/(nv bs i:Int)%24=19)\/((nv bs i:Int)%24=20\/(nv bs i:Int)%24=21)\/((nv bs i:Int)%24=22\/(nv bs i:Int)%24=23)) with K|K|K|K
 ·obtain⟨s0,b4,A⟩:=olD (bs:=bs) b2 (3) (ni bs i);have aj:=A.1;obtain⟨ax,bi,E1⟩:=ag (1) xaa (b4);have B:=E1.1;obtain⟨sv,D⟩:=dcD (env:=env) (bs:=bs) (by omega:(0:Int)<=((nv bs bi:Int)%3)) xaa;obtain⟨e,Vaa⟩:=dcD (env:=env) (bs:=bs) (by omega:(0:Int)<=3) xaa;exact xdy
 ·obtain⟨s0,b4,A⟩:=olD (bs:=bs) b2 (3) (ni bs i);have aj:=A.1;obtain⟨ax,bi,E1⟩:=ag (1) xaa (b4);have B:=E1.1;obtain⟨sv,D⟩:=dcD (env:=env) (bs:=bs) (by omega:(0:Int)<=((nv bs bi:Int)%3)) xaa;obtain⟨e,Vaa⟩:=dcD (env:=env) (bs:=bs) (by omega:(0:Int)<=3) xaa;exact xdv
 ·obtain⟨s0,b4,A⟩:=olD (bs:=bs) b2 (1+(nv bs (ni bs i):Int)%3) (ni bs (ni bs i));have aj:=A.1;obtain⟨ax,bi,E1⟩:=ag (3) xaa (b4);exact xem
 rcases K with K|K<;>exact⟨g,f,gu WkS az λz X W aw=>WkE⟩
