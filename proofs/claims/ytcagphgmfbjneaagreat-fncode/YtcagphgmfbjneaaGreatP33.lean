import Derived.Test.YtcagphgmfbjneaaGreatP32
namespace Go.Proofs.Z
open Tryz
set_option maxRecDepth 1000000
set_option maxHeartbeats 0
open Go.RowKit Flt
attribute[local go_sem] eE eD eC
variable{P:Prop}
variable{X:Xd}{W H:World}{env:List (List UInt8×Int)}{bs:List Int}{i j:Nat}
theorem Sd.al(h:Sd X env bs i W)(o):V (Sd {X with w:=W.alloc o} env bs i (W.alloc o)):=⟨h.rd.keep0 (eA 0 0 _ _),h.en.keep0 (eA 0 0 _ _),Kept.refl _ _ _⟩
theorem Sd.fin{cs r}(h3:Sd {X with w:=W.alloc (.cells cs r)} env bs j H)(h:Sd X env bs i W):Sd X env bs j H/\∀m v,cs[m]? =some v->H.cell? ⟨W.heap.size,m,none⟩=some v:=
 ⟨⟨h3.rd,h3.en,h.kp.trans ((e8 (eA 0 0 _ _)).trans h3.kp)⟩,λm v e=>by
   have aQ:=h.rd.lt
   rw[h3.kp.cell (p:=⟨W.heap.size,m,none⟩) xac (by show ¬(X.P<=W.heap.size/\W.heap.size<X.P+1);omega),yav,e]⟩
theorem WkS(h:P:=by(try simp only[yar,fO,yaq,List.length_nil]);omega):P:=h
theorem WkE(h:P:=by
  repeat (rw[yar]at z;refine sz2 z ?_;clear z;intro _ z)
  go_enter func101,ntmps101
  go_wp2_with ((first
   |(go_at_call 14;refine(nxS au.o).mono ?_)
   |(go_at_call 80;refine(lfS au.o).mono ?_)
   |(go_at_call 101;(first|have aj:=E1.2 _ _ au|have aj:=E2.2 _ _ au|have aj:=E3.2 _ _ au);refine aj.mono ?_;clear aj)
   |(go_at_call 117;refine(A.2 _ _ au).mono ?_)
   |(go_at_call 116;refine(L.2 _ _ au).mono ?_)
   |(go_at_call 100;first|(have aj:=(D _).2 _ _ au;with_reducible refine aj.mono ?_;clear aj)|(have aj:=(Vaa _).2 _ _ au;with_reducible refine aj.mono ?_;clear aj)));rintro e aH ⟨rfl,a2⟩;clear au;have au:V _:=a2;clear a2)
  go_ret;exact⟨rfl,au.o⟩):P:=h
theorem WkT(h:P:=by
  repeat (rw[yar]at z;refine sz2 z ?_;clear z;intro _ z)
  go_enter func101,ntmps101
  go_wp2_with (first
   |(go_at_call 14;refine(nxS au.o).mono ?_;rintro e aH ⟨rfl,a2⟩;clear au;have au:V _:=a2;clear a2)
   |(go_at_call 80;refine(lfS au.o).mono ?_;rintro e aH ⟨rfl,a2⟩;clear au;have au:V _:=a2;clear a2)
   |(go_at_call 101;refine(E2.2 _ _ bI).mono ?_;rintro e am ⟨rfl,a2⟩;clear bI;obtain⟨(bI:V _),al⟩:=a2.fin au.o;have bh:=al 0 _ rfl;have aJ:=al 1 _ rfl;have y2:=al 2 _ rfl;have y3:=al 3 _ rfl;have y4:=al 4 _ rfl;have b5:=al 5 _ rfl;have cA:=al 6 _ rfl;clear a2 al)
   |(go_at_call 101;refine(E1.2 _ _ (au.o.al _)).mono ?_;rintro e am ⟨rfl,(bI:V _)⟩))
  go_ret;exact⟨rfl,bI.o⟩):P:=h
theorem Ii(bU:∀x∈env,x.1.length<=5)(hb:∀i,nv bs i<256)(d:Nat):d<=4->∀q:Int,1<=q/\q<=3->∀i,∃s j,Dr env bs i 101 (λX=>#[.slice X.aE X.nE X.cE,h1 q,h1 d,hZ X.P]) (1000*4 ^ d) s j:=by
 induction d with
 |zero=>
  intro _ q aA i;obtain⟨ar,bm,L⟩:=Na bU hb q aA (ni bs i);have F:=L.1;have ao:1000<=1000000:=xab;show ∃s j,Dr env bs i 101 (λX=>#[.slice X.aE X.nE X.cE,h1 q,h1 0,hZ X.P]) 1000 s j;exact⟨ar,bm,fU WkS ao λz X W au=>WkE⟩
 |succ d G=>
 intro aO q aA i;replace G:=G xaa;have ao:1000*4 ^ (d+1)<=1000000:=yao (Nat.mul_le_mul_left 1000 (Nat.pow_le_pow_right xab aO)) xab;have aQ:1000*4 ^ (d+1)=4*(1000*4 ^ d):=i3 Nat.pow_succ
 have r:1<=4 ^ d:=Nat.pos_of_ne_zero xac;generalize 1000*4 ^ (d+1)=M at ao aQ⊢;generalize 4 ^ d=m at aQ r G;obtain⟨e,b,L⟩:=Na bU hb q aA (ni bs i);have bV:=L.1;have J:¬((d:Int)+1<=0):=xaa;have a:0<(d:Int)+1:=xaa;have g:(d:Int)<=3:=xaa;rw[show((d+1:Nat):Int)=(d:Int)+1 from rfl];rcases (by omega:(nv bs i:Int)%24<4\/(¬((nv bs i:Int)%24<4)/\((bs.length:Int)=(ni bs i:Int)\/¬((bs.length:Int)=(ni bs i:Int)\/(nv bs i:Int)%24<4)))) with C|⟨C,ah|ah⟩
 ·exact⟨e,b,fU WkS ao λz X W au=>WkE⟩
 ·have f:((bs.length:Int)-(ni bs i:Int)==0)=true:=by rw[ah];simp
  exact⟨e,b,fU WkS ao λz X W au=>WkE⟩
 have f:((bs.length:Int)-(ni bs i:Int)==0)=false:=by simp only[beq_eq_false_iff_ne];omega
 clear ah;rcases (by omega:(nv bs i:Int)%24=4\/(nv bs i:Int)%24=5\/(nv bs i:Int)%24=6\/(nv bs i:Int)%24=7\/(nv bs i:Int)%24=8\/(nv bs i:Int)%24=9\/(nv bs i:Int)%24=10\/(nv bs i:Int)%24=11\/(nv bs i:Int)%24=12\/(nv bs i:Int)%24=13\/(nv bs i:Int)%24=14\/(nv bs i:Int)%24=15\/16<=(nv bs i:Int)%24) with C|C|C|C|C|C|C|C|C|C|C|C|C
 ·obtain⟨ar,bm,E1⟩:=G (q) xaa (ni bs i);have F:=E1.1;obtain⟨aW,ad,E2⟩:=G (q) xaa (bm);have h2:=E2.1;exact⟨⟨#[40]⟩++ar++⟨#[32,43,32]⟩++aW++⟨#[41]⟩,ad,fU WkS ao λz X W au=>WkT⟩
 ·obtain⟨ar,bm,E1⟩:=G (q) xaa (ni bs i);have F:=E1.1;obtain⟨aW,ad,E2⟩:=G (q) xaa (bm);have h2:=E2.1;exact⟨ar++⟨#[32,45,32]⟩++⟨#[40]⟩++aW++⟨#[41]⟩,ad,fU WkS ao λz X W au=>WkT⟩
 ·obtain⟨ar,bm,E1⟩:=G (q) xaa (ni bs i);have F:=E1.1;obtain⟨aW,ad,E2⟩:=G (q) xaa (bm);have h2:=E2.1;exact⟨⟨#[40]⟩++ar++⟨#[32,42,32]⟩++aW++⟨#[41]⟩,ad,fU WkS ao λz X W au=>WkT⟩
 ·obtain⟨ar,bm,E1⟩:=G (q) xaa (ni bs i);have F:=E1.1;obtain⟨aW,ad,E2⟩:=G (q) xaa (bm);have h2:=E2.1;exact⟨ar++⟨#[42]⟩++⟨#[40]⟩++aW++⟨#[41]⟩,ad,fU WkS ao λz X W au=>WkT⟩
 ·obtain⟨ar,bm,E1⟩:=G (q) xaa (ni bs i);have F:=E1.1;obtain⟨aW,ad,E2⟩:=G (q) xaa (bm);have h2:=E2.1;exact⟨⟨#[40]⟩++ar++⟨#[32,47,32]⟩++aW++⟨#[41]⟩,ad,fU WkS ao λz X W au=>WkT⟩
 ·obtain⟨ar,bm,E1⟩:=G (q) xaa (ni bs i);have F:=E1.1;obtain⟨aW,ad,E2⟩:=G (q) xaa (bm);have h2:=E2.1;exact⟨ar++⟨#[43]⟩++⟨#[40]⟩++aW++⟨#[41]⟩,ad,fU WkS ao λz X W au=>WkT⟩
 ·obtain⟨ar,bm,E1⟩:=G (q) xaa (ni bs i);have F:=E1.1;obtain⟨aW,ad,E2⟩:=G (1) xaa (bm);have h2:=E2.1;exact⟨⟨#[40]⟩++ar++⟨#[45]⟩++aW++⟨#[41]⟩,ad,fU WkS ao λz X W au=>WkT⟩
 ·obtain⟨ar,bm,E1⟩:=G (q) xaa (ni bs i);have F:=E1.1;exact⟨⟨#[45,40]⟩++ar++⟨#[41]⟩,bm,fU WkS ao λz X W au=>WkE⟩
 ·obtain⟨ar,bm,E1⟩:=G (q) xaa (ni bs i);have F:=E1.1;obtain⟨aW,ad,E2⟩:=G (1) xaa (bm);have h2:=E2.1;exact⟨⟨#[109,97,120,40]⟩++ar++⟨#[44,32]⟩++aW++⟨#[41]⟩,ad,fU WkS ao λz X W au=>WkE⟩
 ·obtain⟨ar,bm,E1⟩:=G (q) xaa (ni bs i);have F:=E1.1;obtain⟨aW,ad,E2⟩:=G (q) xaa (bm);have h2:=E2.1;obtain⟨bJ,c9,E3⟩:=G (1) xaa (ad);have h3:=E3.1;exact⟨⟨#[115,101,108,40]⟩++bJ++⟨#[44,32]⟩++ar++⟨#[44,32]⟩++aW++⟨#[41]⟩,c9,fU WkS ao λz X W au=>WkE⟩
 ·obtain⟨ar,bm,E1⟩:=G (q) xaa (ni bs i);have F:=E1.1;exact⟨⟨#[101,120,112,40]⟩++ar++⟨#[41]⟩,bm,fU WkS ao λz X W au=>WkE⟩
 ·obtain⟨aY,bE,A⟩:=olD (bs:=bs) bU (0) (ni bs i);have ak:=A.1;obtain⟨ar,bm,E1⟩:=G (q) xaa (bE);have F:=E1.1;rcases vE aY with⟨bl,a9⟩|⟨bl,a9⟩
  ·exact⟨ar,bm,fU WkS ao λz X W au=>WkE⟩
  exact⟨aY++⟨#[40]⟩++ar++⟨#[41]⟩,bm,fU WkS ao λz X W au=>WkE⟩
 rcases (by omega:q=1\/q=2\/q=3) with rfl|rfl|rfl
 ·rcases (by omega:((nv bs i:Int)%24=16\/(nv bs i:Int)%24=17\/(nv bs i:Int)%24=18\/(nv bs i:Int)%24=19\/(nv bs i:Int)%24=20\/(nv bs i:Int)%24=21)\/((nv bs i:Int)%24=22)\/((nv bs i:Int)%24=23)) with C|C|C
  ·obtain⟨aY,bE,A⟩:=olD (bs:=bs) bU (1+(nv bs (ni bs i):Int)%3) (ni bs (ni bs i));have ak:=A.1;obtain⟨ar,bm,E1⟩:=G (1) xaa (bE);have F:=E1.1;obtain⟨aW,ad,E2⟩:=G (1) xaa (bm);have h2:=E2.1;rcases vE aY with⟨bl,a9⟩|⟨bl,a9⟩
   ·rcases C with C|C|C|C|C|C<;>exact⟨ar,ad,fU WkS ao λz X W au=>WkE⟩
   rcases C with C|C|C|C|C|C<;>exact⟨⟨#[106,118,112,40]⟩++ar++⟨#[44,32]⟩++aY++⟨#[44,32]⟩++aW++⟨#[41]⟩,ad,fU WkS ao λz X W au=>WkE⟩
  ·obtain⟨ar,bm,E1⟩:=G (1+(nv bs (ni bs i):Int)%3) xaa (ni bs (ni bs i));have F:=E1.1;exact⟨⟨#[115,117,109,40]⟩++ar++⟨#[41]⟩,bm,fU WkS ao λz X W au=>WkE⟩
  obtain⟨ar,bm,E1⟩:=G (1+(nv bs (ni bs i):Int)%3) xaa (ni bs (ni bs i));have F:=E1.1;rcases (by omega:(nv bs bm:Int)%3=0\/(nv bs bm:Int)%3=1\/(nv bs bm:Int)%3=2) with S|S|S
  ·obtain⟨sv,D⟩:=dcD (env:=env) (bs:=bs) (by omega:(0:Int)<=1+(nv bs (ni bs i):Int)%3-1) xaa;have aN:=(D 0).1;exact⟨⟨#[112,105,99,107,40]⟩++ar++⟨#[44,32]⟩++sv++⟨#[41]⟩,ni bs bm,fU WkS ao λz X W au=>WkE⟩
  ·obtain⟨aW,ad,E2⟩:=G (1+(nv bs (ni bs i):Int)%3) xaa (ni bs bm);have h2:=E2.1;exact⟨⟨#[100,111,116,40]⟩++ar++⟨#[44,32]⟩++aW++⟨#[41]⟩,ad,fU WkS ao λz X W au=>WkE⟩
  obtain⟨aY,bE,A⟩:=olD (bs:=bs) bU (1) (ni bs bm);have ak:=A.1;obtain⟨aW,ad,E2⟩:=G (1) xaa (bE);have h2:=E2.1;rcases vE aY with⟨bl,a9⟩|⟨bl,a9⟩
  ·exact⟨aW,ad,fU WkS ao λz X W au=>WkE⟩
  exact⟨⟨#[103,114,97,100,40]⟩++aW++⟨#[44,32]⟩++aY++⟨#[41]⟩,ad,fU WkS ao λz X W au=>WkE⟩
 ·rcases (by omega:((nv bs i:Int)%24=16\/(nv bs i:Int)%24=17)\/((nv bs i:Int)%24=18\/(nv bs i:Int)%24=19)\/((nv bs i:Int)%24=20\/(nv bs i:Int)%24=21)\/((nv bs i:Int)%24=22\/(nv bs i:Int)%24=23)) with C|C|C|C
  ·obtain⟨aY,bE,A⟩:=olD (bs:=bs) bU (2) (ni bs i);have ak:=A.1;obtain⟨ar,bm,E1⟩:=G (1) xaa (bE);have F:=E1.1;obtain⟨sv,D⟩:=dcD (env:=env) (bs:=bs) (by omega:(0:Int)<=((nv bs bm:Int)%2)) xaa;obtain⟨O,Vaa⟩:=dcD (env:=env) (bs:=bs) (by omega:(0:Int)<=2) xaa;exact xda
  ·obtain⟨aY,bE,A⟩:=olD (bs:=bs) bU (2) (ni bs i);have ak:=A.1;obtain⟨ar,bm,E1⟩:=G (1) xaa (bE);have F:=E1.1;obtain⟨sv,D⟩:=dcD (env:=env) (bs:=bs) (by omega:(0:Int)<=((nv bs bm:Int)%2)) xaa;obtain⟨O,Vaa⟩:=dcD (env:=env) (bs:=bs) (by omega:(0:Int)<=2) xaa;exact xcz
  ·obtain⟨aY,bE,A⟩:=olD (bs:=bs) bU (1+(nv bs (ni bs i):Int)%3) (ni bs (ni bs i));have ak:=A.1;obtain⟨ar,bm,E1⟩:=G (2) xaa (bE);exact xdf
  rcases C with C|C<;>exact⟨e,b,fU WkS ao λz X W au=>WkE⟩
 rcases (by omega:((nv bs i:Int)%24=16\/(nv bs i:Int)%24=17)\/((nv bs i:Int)%24=18\/(nv bs i:Int)%24=19)\/((nv bs i:Int)%24=20\/(nv bs i:Int)%24=21)\/((nv bs i:Int)%24=22\/(nv bs i:Int)%24=23)) with C|C|C|C
 ·obtain⟨aY,bE,A⟩:=olD (bs:=bs) bU (3) (ni bs i);have ak:=A.1;obtain⟨ar,bm,E1⟩:=G (1) xaa (bE);have F:=E1.1;obtain⟨sv,D⟩:=dcD (env:=env) (bs:=bs) (by omega:(0:Int)<=((nv bs bm:Int)%3)) xaa;obtain⟨O,Vaa⟩:=dcD (env:=env) (bs:=bs) (by omega:(0:Int)<=3) xaa;exact xda
 ·obtain⟨aY,bE,A⟩:=olD (bs:=bs) bU (3) (ni bs i);have ak:=A.1;obtain⟨ar,bm,E1⟩:=G (1) xaa (bE);have F:=E1.1;obtain⟨sv,D⟩:=dcD (env:=env) (bs:=bs) (by omega:(0:Int)<=((nv bs bm:Int)%3)) xaa;obtain⟨O,Vaa⟩:=dcD (env:=env) (bs:=bs) (by omega:(0:Int)<=3) xaa;exact xcz
 ·obtain⟨aY,bE,A⟩:=olD (bs:=bs) bU (1+(nv bs (ni bs i):Int)%3) (ni bs (ni bs i));have ak:=A.1;obtain⟨ar,bm,E1⟩:=G (3) xaa (bE);exact xdf
 rcases C with C|C<;>exact⟨e,b,fU WkS ao λz X W au=>WkE⟩
