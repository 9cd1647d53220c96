import Derived.Test.YtkjahdegnkmejaaGreatP22
namespace Go.Proofs.Z
open Tryz
set_option maxRecDepth 1000000
set_option maxHeartbeats 0
open Go.RowKit Flt
attribute[local go_sem] eE eC eB
variable{P:Prop}
variable{X:Xd}{W F:World}{env:List (List UInt8×Int)}{bs:List Int}{i j:Nat}
theorem Sd.al(h:Sd X env bs i W)(o):V (Sd {X with w:=W.alloc o} env bs i (W.alloc o)):=⟨h.rd.keep0 (eA 0 0 _ _),h.en.keep0 (eA 0 0 _ _),Kept.refl _ _ _⟩
theorem Sd.fin{cs r}(h3:Sd {X with w:=W.alloc (.cells cs r)} env bs j F)(h:Sd X env bs i W):Sd X env bs j F/\∀m v,cs[m]? =some v->F.cell? ⟨W.heap.size,m,none⟩=some v:=
 ⟨⟨h3.rd,h3.en,h.kp.trans ((eZ (eA 0 0 _ _)).trans h3.kp)⟩,λm v e=>by
   have aA:=h.rd.lt
   rw[h3.kp.cell (p:=⟨W.heap.size,m,none⟩) xac (by show ¬(X.P<=W.heap.size/\W.heap.size<X.P+1);omega),yav,e]⟩
theorem WkS(h:P:=by(try simp only[yar,fX,yaq,List.length_nil]);omega):P:=h
theorem WkE(h:P:=by
  repeat (rw[yar]at z;refine sz2 z ?_;clear z;intro _ z)
  go_enter func90,ntmps90
  go_wp2_with ((first
   |(go_at_call 11;refine(nxS aG.o).mono ?_)
   |(go_at_call 61;refine(lfS aG.o).mono ?_)
   |(go_at_call 90;(first|have bn:=E1.2 _ _ aG|have bn:=E2.2 _ _ aG|have bn:=E3.2 _ _ aG);refine bn.mono ?_;clear bn)
   |(go_at_call 107;refine(A.2 _ _ aG).mono ?_)
   |(go_at_call 106;refine(L.2 _ _ aG).mono ?_)
   |(go_at_call 89;first|(have bn:=(D _).2 _ _ aG;with_reducible refine bn.mono ?_;clear bn)|(have bn:=(Vaa _).2 _ _ aG;with_reducible refine bn.mono ?_;clear bn)));rintro e aK ⟨rfl,a5⟩;clear aG;have aG:V _:=a5;clear a5)
  go_ret;exact⟨rfl,aG.o⟩):P:=h
theorem WkT(h:P:=by
  repeat (rw[yar]at z;refine sz2 z ?_;clear z;intro _ z)
  go_enter func90,ntmps90
  go_wp2_with (first
   |(go_at_call 11;refine(nxS aG.o).mono ?_;rintro e aK ⟨rfl,a5⟩;clear aG;have aG:V _:=a5;clear a5)
   |(go_at_call 61;refine(lfS aG.o).mono ?_;rintro e aK ⟨rfl,a5⟩;clear aG;have aG:V _:=a5;clear a5)
   |(go_at_call 90;refine(E2.2 _ _ bL).mono ?_;rintro e ak ⟨rfl,a5⟩;clear bL;obtain⟨(bL:V _),ai⟩:=a5.fin aG.o;have a8:=ai 0 _ rfl;have aJ:=ai 1 _ rfl;have aP:=ai 2 _ rfl;have bw:=ai 3 _ rfl;have b3:=ai 4 _ rfl;have cf:=ai 5 _ rfl;have cz:=ai 6 _ rfl;clear a5 ai)
   |(go_at_call 90;refine(E1.2 _ _ (aG.o.al _)).mono ?_;rintro e ak ⟨rfl,(bL:V _)⟩))
  go_ret;exact⟨rfl,bL.o⟩):P:=h
theorem FV(bY:∀x∈env,x.1.length<=5)(hb:∀i,nv bs i<256)(d:Nat):d<=4->∀q:Int,1<=q/\q<=3->∀i,∃s j,Dr env bs i 90 (λX=>#[.slice X.aE X.nE X.cE,ih q,ih d,ge X.P]) (1000*4 ^ d) s j:=by
 induction d with
 |zero=>
  intro _ q am i;obtain⟨av,bh,L⟩:=LV bY hb q am (ni bs i);have B:=L.1;have aD:1000<=1000000:=xab;show ∃s j,Dr env bs i 90 (λX=>#[.slice X.aE X.nE X.cE,ih q,ih 0,ge X.P]) 1000 s j;exact⟨av,bh,f9 WkS aD λz X W aG=>WkE⟩
 |succ d Z=>
 intro aN q am i;replace Z:=Z xaa;have aD:1000*4 ^ (d+1)<=1000000:=yao (Nat.mul_le_mul_left 1000 (Nat.pow_le_pow_right xab aN)) xab;have aA:1000*4 ^ (d+1)=4*(1000*4 ^ d):=jx Nat.pow_succ
 have u:1<=4 ^ d:=Nat.pos_of_ne_zero xac;generalize 1000*4 ^ (d+1)=M at aD aA⊢;generalize 4 ^ d=m at aA u Z;obtain⟨e,b,L⟩:=LV bY hb q am (ni bs i);have bI:=L.1;have y:¬((d:Int)+1<=0):=xaa;have C:0<(d:Int)+1:=xaa;have g:(d:Int)<=3:=xaa;rw[show((d+1:Nat):Int)=(d:Int)+1 from rfl];rcases (by omega:(nv bs i:Int)%24<4\/(¬((nv bs i:Int)%24<4)/\((bs.length:Int)=(ni bs i:Int)\/¬((bs.length:Int)=(ni bs i:Int)\/(nv bs i:Int)%24<4)))) with aa|⟨aa,ah|ah⟩
 ·exact⟨e,b,f9 WkS aD λz X W aG=>WkE⟩
 ·have f:((bs.length:Int)-(ni bs i:Int)==0)=true:=by rw[ah];simp
  exact⟨e,b,f9 WkS aD λz X W aG=>WkE⟩
 have f:((bs.length:Int)-(ni bs i:Int)==0)=false:=by simp only[beq_eq_false_iff_ne];omega
 clear ah;rcases (by omega:(nv bs i:Int)%24=4\/(nv bs i:Int)%24=5\/(nv bs i:Int)%24=6\/(nv bs i:Int)%24=7\/(nv bs i:Int)%24=8\/(nv bs i:Int)%24=9\/(nv bs i:Int)%24=10\/(nv bs i:Int)%24=11\/(nv bs i:Int)%24=12\/(nv bs i:Int)%24=13\/(nv bs i:Int)%24=14\/(nv bs i:Int)%24=15\/16<=(nv bs i:Int)%24) with aa|aa|aa|aa|aa|aa|aa|aa|aa|aa|aa|aa|aa
 ·obtain⟨av,bh,E1⟩:=Z (q) xaa (ni bs i);have B:=E1.1;obtain⟨aT,a5,E2⟩:=Z (q) xaa (bh);have N:=E2.1;exact⟨⟨#[40]⟩++av++⟨#[32,43,32]⟩++aT++⟨#[41]⟩,a5,f9 WkS aD λz X W aG=>WkT⟩
 ·obtain⟨av,bh,E1⟩:=Z (q) xaa (ni bs i);have B:=E1.1;obtain⟨aT,a5,E2⟩:=Z (q) xaa (bh);have N:=E2.1;exact⟨av++⟨#[32,45,32]⟩++⟨#[40]⟩++aT++⟨#[41]⟩,a5,f9 WkS aD λz X W aG=>WkT⟩
 ·obtain⟨av,bh,E1⟩:=Z (q) xaa (ni bs i);have B:=E1.1;obtain⟨aT,a5,E2⟩:=Z (q) xaa (bh);have N:=E2.1;exact⟨⟨#[40]⟩++av++⟨#[32,42,32]⟩++aT++⟨#[41]⟩,a5,f9 WkS aD λz X W aG=>WkT⟩
 ·obtain⟨av,bh,E1⟩:=Z (q) xaa (ni bs i);have B:=E1.1;obtain⟨aT,a5,E2⟩:=Z (q) xaa (bh);have N:=E2.1;exact⟨av++⟨#[42]⟩++⟨#[40]⟩++aT++⟨#[41]⟩,a5,f9 WkS aD λz X W aG=>WkT⟩
 ·obtain⟨av,bh,E1⟩:=Z (q) xaa (ni bs i);have B:=E1.1;obtain⟨aT,a5,E2⟩:=Z (q) xaa (bh);have N:=E2.1;exact⟨⟨#[40]⟩++av++⟨#[32,47,32]⟩++aT++⟨#[41]⟩,a5,f9 WkS aD λz X W aG=>WkT⟩
 ·obtain⟨av,bh,E1⟩:=Z (q) xaa (ni bs i);have B:=E1.1;obtain⟨aT,a5,E2⟩:=Z (q) xaa (bh);have N:=E2.1;exact⟨av++⟨#[43]⟩++⟨#[40]⟩++aT++⟨#[41]⟩,a5,f9 WkS aD λz X W aG=>WkT⟩
 ·obtain⟨av,bh,E1⟩:=Z (q) xaa (ni bs i);have B:=E1.1;obtain⟨aT,a5,E2⟩:=Z (1) xaa (bh);have N:=E2.1;exact⟨⟨#[40]⟩++av++⟨#[45]⟩++aT++⟨#[41]⟩,a5,f9 WkS aD λz X W aG=>WkT⟩
 ·obtain⟨av,bh,E1⟩:=Z (q) xaa (ni bs i);have B:=E1.1;exact⟨⟨#[45,40]⟩++av++⟨#[41]⟩,bh,f9 WkS aD λz X W aG=>WkE⟩
 ·obtain⟨av,bh,E1⟩:=Z (q) xaa (ni bs i);have B:=E1.1;obtain⟨aT,a5,E2⟩:=Z (1) xaa (bh);have N:=E2.1;exact⟨⟨#[109,97,120,40]⟩++av++⟨#[44,32]⟩++aT++⟨#[41]⟩,a5,f9 WkS aD λz X W aG=>WkE⟩
 ·obtain⟨av,bh,E1⟩:=Z (q) xaa (ni bs i);have B:=E1.1;obtain⟨aT,a5,E2⟩:=Z (q) xaa (bh);have N:=E2.1;obtain⟨G,bD,E3⟩:=Z (1) xaa (a5);have h3:=E3.1;exact⟨⟨#[115,101,108,40]⟩++G++⟨#[44,32]⟩++av++⟨#[44,32]⟩++aT++⟨#[41]⟩,bD,f9 WkS aD λz X W aG=>WkE⟩
 ·obtain⟨av,bh,E1⟩:=Z (q) xaa (ni bs i);have B:=E1.1;exact⟨⟨#[101,120,112,40]⟩++av++⟨#[41]⟩,bh,f9 WkS aD λz X W aG=>WkE⟩
 ·obtain⟨a0,cd,A⟩:=olD (bs:=bs) bY (0) (ni bs i);have aj:=A.1;obtain⟨av,bh,E1⟩:=Z (q) xaa (cd);have B:=E1.1;rcases uw a0 with⟨bm,bd⟩|⟨bm,bd⟩
  ·exact⟨av,bh,f9 WkS aD λz X W aG=>WkE⟩
  exact⟨a0++⟨#[40]⟩++av++⟨#[41]⟩,bh,f9 WkS aD λz X W aG=>WkE⟩
 rcases (by omega:q=1\/q=2\/q=3) with rfl|rfl|rfl
 ·rcases (by omega:((nv bs i:Int)%24=16\/(nv bs i:Int)%24=17\/(nv bs i:Int)%24=18\/(nv bs i:Int)%24=19\/(nv bs i:Int)%24=20\/(nv bs i:Int)%24=21)\/((nv bs i:Int)%24=22)\/((nv bs i:Int)%24=23)) with aa|aa|aa
  ·obtain⟨a0,cd,A⟩:=olD (bs:=bs) bY (1+(nv bs (ni bs i):Int)%3) (ni bs (ni bs i));have aj:=A.1;obtain⟨av,bh,E1⟩:=Z (1) xaa (cd);have B:=E1.1;obtain⟨aT,a5,E2⟩:=Z (1) xaa (bh);have N:=E2.1;rcases uw a0 with⟨bm,bd⟩|⟨bm,bd⟩
   ·rcases aa with aa|aa|aa|aa|aa|aa<;>exact⟨av,a5,f9 WkS aD λz X W aG=>WkE⟩
   rcases aa with aa|aa|aa|aa|aa|aa<;>exact⟨⟨#[106,118,112,40]⟩++av++⟨#[44,32]⟩++a0++⟨#[44,32]⟩++aT++⟨#[41]⟩,a5,f9 WkS aD λz X W aG=>WkE⟩
  ·obtain⟨av,bh,E1⟩:=Z (1+(nv bs (ni bs i):Int)%3) xaa (ni bs (ni bs i));have B:=E1.1;exact⟨⟨#[115,117,109,40]⟩++av++⟨#[41]⟩,bh,f9 WkS aD λz X W aG=>WkE⟩
  obtain⟨av,bh,E1⟩:=Z (1+(nv bs (ni bs i):Int)%3) xaa (ni bs (ni bs i));have B:=E1.1;rcases (by omega:(nv bs bh:Int)%3=0\/(nv bs bh:Int)%3=1\/(nv bs bh:Int)%3=2) with aC|aC|aC
  ·obtain⟨sv,D⟩:=dcD (env:=env) (bs:=bs) (by omega:(0:Int)<=1+(nv bs (ni bs i):Int)%3-1) xaa;have aL:=(D 0).1;exact⟨⟨#[112,105,99,107,40]⟩++av++⟨#[44,32]⟩++sv++⟨#[41]⟩,ni bs bh,f9 WkS aD λz X W aG=>WkE⟩
  ·obtain⟨aT,a5,E2⟩:=Z (1+(nv bs (ni bs i):Int)%3) xaa (ni bs bh);have N:=E2.1;exact⟨⟨#[100,111,116,40]⟩++av++⟨#[44,32]⟩++aT++⟨#[41]⟩,a5,f9 WkS aD λz X W aG=>WkE⟩
  obtain⟨a0,cd,A⟩:=olD (bs:=bs) bY (1) (ni bs bh);have aj:=A.1;obtain⟨aT,a5,E2⟩:=Z (1) xaa (cd);have N:=E2.1;rcases uw a0 with⟨bm,bd⟩|⟨bm,bd⟩
  ·exact⟨aT,a5,f9 WkS aD λz X W aG=>WkE⟩
  exact⟨⟨#[103,114,97,100,40]⟩++aT++⟨#[44,32]⟩++a0++⟨#[41]⟩,a5,f9 WkS aD λz X W aG=>WkE⟩
 ·rcases (by omega:((nv bs i:Int)%24=16\/(nv bs i:Int)%24=17)\/((nv bs i:Int)%24=18\/(nv bs i:Int)%24=19)\/((nv bs i:Int)%24=20\/(nv bs i:Int)%24=21)\/((nv bs i:Int)%24=22\/(nv bs i:Int)%24=23)) with aa|aa|aa|aa
  ·obtain⟨a0,cd,A⟩:=olD (bs:=bs) bY (2) (ni bs i);have aj:=A.1;obtain⟨av,bh,E1⟩:=Z (1) xaa (cd);have B:=E1.1;obtain⟨sv,D⟩:=dcD (env:=env) (bs:=bs) (by omega:(0:Int)<=((nv bs bh:Int)%2)) xaa;obtain⟨J,Vaa⟩:=dcD (env:=env) (bs:=bs) (by omega:(0:Int)<=2) xaa;exact xde
  ·obtain⟨a0,cd,A⟩:=olD (bs:=bs) bY (2) (ni bs i);have aj:=A.1;obtain⟨av,bh,E1⟩:=Z (1) xaa (cd);have B:=E1.1;obtain⟨sv,D⟩:=dcD (env:=env) (bs:=bs) (by omega:(0:Int)<=((nv bs bh:Int)%2)) xaa;obtain⟨J,Vaa⟩:=dcD (env:=env) (bs:=bs) (by omega:(0:Int)<=2) xaa;exact xcy
  ·obtain⟨a0,cd,A⟩:=olD (bs:=bs) bY (1+(nv bs (ni bs i):Int)%3) (ni bs (ni bs i));have aj:=A.1;obtain⟨av,bh,E1⟩:=Z (2) xaa (cd);exact xdi
  exact xjt
 rcases (by omega:((nv bs i:Int)%24=16\/(nv bs i:Int)%24=17)\/((nv bs i:Int)%24=18\/(nv bs i:Int)%24=19)\/((nv bs i:Int)%24=20\/(nv bs i:Int)%24=21)\/((nv bs i:Int)%24=22\/(nv bs i:Int)%24=23)) with aa|aa|aa|aa
 ·obtain⟨a0,cd,A⟩:=olD (bs:=bs) bY (3) (ni bs i);have aj:=A.1;obtain⟨av,bh,E1⟩:=Z (1) xaa (cd);have B:=E1.1;obtain⟨sv,D⟩:=dcD (env:=env) (bs:=bs) (by omega:(0:Int)<=((nv bs bh:Int)%3)) xaa;obtain⟨J,Vaa⟩:=dcD (env:=env) (bs:=bs) (by omega:(0:Int)<=3) xaa;exact xde
 ·obtain⟨a0,cd,A⟩:=olD (bs:=bs) bY (3) (ni bs i);have aj:=A.1;obtain⟨av,bh,E1⟩:=Z (1) xaa (cd);have B:=E1.1;obtain⟨sv,D⟩:=dcD (env:=env) (bs:=bs) (by omega:(0:Int)<=((nv bs bh:Int)%3)) xaa;obtain⟨J,Vaa⟩:=dcD (env:=env) (bs:=bs) (by omega:(0:Int)<=3) xaa;exact xcy
 ·obtain⟨a0,cd,A⟩:=olD (bs:=bs) bY (1+(nv bs (ni bs i):Int)%3) (ni bs (ni bs i));have aj:=A.1;obtain⟨av,bh,E1⟩:=Z (3) xaa (cd);exact xdi
 exact xjt
