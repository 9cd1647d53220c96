import Derived.Test.YtcjhlkdleojbjaaGreatP34
namespace Go.Proofs.Z
open Tryz
set_option maxRecDepth 1000000
set_option maxHeartbeats 0
open Go.RowKit Flt
attribute[local go_sem] eF eE eD
variable{y:Prop}
variable{X:Xd}{W I:World}{env:List (List UInt8×Int)}{bs:List Int}{i j:Nat}
theorem Sd.al(h:Sd X env bs i W)(o):E (Sd {X with w:=W.alloc o} env bs i (W.alloc o)):=⟨h.rd.keep0 (ez 0 0 _ _),h.en.keep0 (ez 0 0 _ _),Kept.refl _ _ _⟩
theorem Sd.fin{cs p}(h3:Sd {X with w:=W.alloc (.cells cs p)} env bs j I)(h:Sd X env bs i W):Sd X env bs j I/\∀m v,cs[m]? =some v->I.cell? ⟨W.heap.size,m,none⟩=some v:=
 ⟨⟨h3.rd,h3.en,h.kp.trans ((e8 (ez 0 0 _ _)).trans h3.kp)⟩,λm v e=>by
   have aM:=h.rd.lt
   rw[h3.kp.cell (p:=⟨W.heap.size,m,none⟩) xac (by show ¬(X.P<=W.heap.size/\W.heap.size<X.P+1);omega),yav,e]⟩
theorem WkS(h:y:=by(try have F:=E1.1);(try have N:=E2.1);(try have h3:=E3.1);(try have al:=A.1);(try have aO:=(D 0).1);(try have u:=(V 0).1);(try have bA:=L.1);(try simp only[yar,fX,yaq,List.length_nil]);omega):y:=h
theorem WkE(h:y:=by
  repeat (rw[yar]at z;refine sz2 z ?_;clear z;intro _ z)
  go_enter func78,ntmps78
  go_wp2_with ((first
   |(go_at_call 15;refine(nxS ao.o).mono ?_)
   |(go_at_call 45;refine(lfS ao.o).mono ?_)
   |(go_at_call 78;(first|have bu:=E1.2 _ _ ao|have bu:=E2.2 _ _ ao|have bu:=E3.2 _ _ ao);refine bu.mono ?_;clear bu)
   |(go_at_call 106;refine(A.2 _ _ ao).mono ?_)
   |(go_at_call 105;refine(L.2 _ _ ao).mono ?_)
   |(go_at_call 77;first|(have bu:=(D _).2 _ _ ao;with_reducible refine bu.mono ?_;clear bu)|(have bu:=(V _).2 _ _ ao;with_reducible refine bu.mono ?_;clear bu)));rintro e aA ⟨rfl,aW⟩;clear ao;have ao:E _:=aW;clear aW)
  go_ret;exact⟨rfl,ao.o⟩):y:=h
theorem WkT(h:y:=by
  repeat (rw[yar]at z;refine sz2 z ?_;clear z;intro _ z)
  go_enter func78,ntmps78
  go_wp2_with (first
   |(go_at_call 15;refine(nxS ao.o).mono ?_;rintro e aA ⟨rfl,aW⟩;clear ao;have ao:E _:=aW;clear aW)
   |(go_at_call 45;refine(lfS ao.o).mono ?_;rintro e aA ⟨rfl,aW⟩;clear ao;have ao:E _:=aW;clear aW)
   |(go_at_call 78;refine(E2.2 _ _ aV).mono ?_;rintro e ag ⟨rfl,aW⟩;clear aV;obtain⟨(aV:E _),ah⟩:=aW.fin ao.o;have ba:=ah 0 _ rfl;have aP:=ah 1 _ rfl;have y2:=ah 2 _ rfl;have y3:=ah 3 _ rfl;have y4:=ah 4 _ rfl;have ck:=ah 5 _ rfl;have cU:=ah 6 _ rfl;clear aW ah)
   |(go_at_call 78;refine(E1.2 _ _ (ao.o.al _)).mono ?_;rintro e ag ⟨rfl,(aV:E _)⟩))
  go_ret;exact⟨rfl,aV.o⟩):y:=h
theorem Jq(au:∀x∈env,x.1.length<=5)(hb:∀i,nv bs i<256)(d:Nat):d<=4->∀q:Int,1<=q/\q<=3->∀i,∃s j,Dr env bs i 78 (λX=>#[.slice X.aE X.nE X.cE,hA q,hA d,hy X.P]) (1000*4 ^ d) s j:=by
 induction d with
 |zero=>
  intro _ q ap i;obtain⟨ax,aO,L⟩:=Na au hb q ap (ni bs i);have am:1000<=1000000:=xab;show ∃s j,Dr env bs i 78 (λX=>#[.slice X.aE X.nE X.cE,hA q,hA 0,hy X.P]) 1000 s j;exact⟨ax,aO,gj WkS am λz X W ao=>WkE⟩
 |succ d G=>
 intro aK q ap i;replace G:=G xaa;have am:1000*4 ^ (d+1)<=1000000:=yao (Nat.mul_le_mul_left 1000 (Nat.pow_le_pow_right xab aK)) xab;have aM:1000*4 ^ (d+1)=4*(1000*4 ^ d):=hN Nat.pow_succ
 have aQ:1<=4 ^ d:=Nat.pos_of_ne_zero xac;generalize 1000*4 ^ (d+1)=M at am aM⊢;generalize 4 ^ d=m at aM aQ G;obtain⟨g,f,L⟩:=Na au hb q ap (ni bs i);have K:¬((d:Int)+1<=0):=xaa;have ak:0<(d:Int)+1:=xaa;have l:(d:Int)<=3:=xaa;rw[show((d+1:Nat):Int)=(d:Int)+1 from rfl];rcases (by omega:(nv bs i:Int)%24<4\/(¬((nv bs i:Int)%24<4)/\((bs.length:Int)=(ni bs i:Int)\/¬((bs.length:Int)=(ni bs i:Int)\/(nv bs i:Int)%24<4)))) with C|⟨C,aq|aq⟩
 ·exact⟨g,f,gj WkS am λz X W ao=>WkE⟩
 ·have h:((bs.length:Int)-(ni bs i:Int)==0)=true:=by rw[aq];simp
  exact⟨g,f,gj WkS am λz X W ao=>WkE⟩
 have h:((bs.length:Int)-(ni bs i:Int)==0)=false:=by simp only[beq_eq_false_iff_ne];omega
 clear aq;obtain⟨ax,aO,E1⟩:=G q xaa (ni bs i);obtain⟨aU,P,E2⟩:=G q xaa aO;rcases (by omega:(nv bs i:Int)%24=4\/(nv bs i:Int)%24=5\/(nv bs i:Int)%24=6\/(nv bs i:Int)%24=7\/(nv bs i:Int)%24=8\/(nv bs i:Int)%24=9\/(nv bs i:Int)%24=10\/(nv bs i:Int)%24=11\/(nv bs i:Int)%24=12\/(nv bs i:Int)%24=13\/(nv bs i:Int)%24=14\/(nv bs i:Int)%24=15\/16<=(nv bs i:Int)%24) with C|C|C|C|C|C|C|C|C|C|C|C|C
 ·exact⟨⟨#[40]⟩++ax++⟨#[32,43,32]⟩++aU++⟨#[41]⟩,P,gj WkS am λz X W ao=>WkT⟩
 ·exact⟨ax++⟨#[32,45,32]⟩++⟨#[40]⟩++aU++⟨#[41]⟩,P,gj WkS am λz X W ao=>WkT⟩
 ·exact⟨⟨#[40]⟩++ax++⟨#[32,42,32]⟩++aU++⟨#[41]⟩,P,gj WkS am λz X W ao=>WkT⟩
 ·exact⟨ax++⟨#[42]⟩++⟨#[40]⟩++aU++⟨#[41]⟩,P,gj WkS am λz X W ao=>WkT⟩
 ·exact⟨⟨#[40]⟩++ax++⟨#[32,47,32]⟩++aU++⟨#[41]⟩,P,gj WkS am λz X W ao=>WkT⟩
 ·exact⟨ax++⟨#[43]⟩++⟨#[40]⟩++aU++⟨#[41]⟩,P,gj WkS am λz X W ao=>WkT⟩
 ·obtain⟨aU,P,E2⟩:=G (1) xaa (aO);exact⟨⟨#[40]⟩++ax++⟨#[45]⟩++aU++⟨#[41]⟩,P,gj WkS am λz X W ao=>WkT⟩
 ·exact⟨⟨#[45,40]⟩++ax++⟨#[41]⟩,aO,gj WkS am λz X W ao=>WkE⟩
 ·obtain⟨aU,P,E2⟩:=G (1) xaa (aO);exact⟨⟨#[109,97,120,40]⟩++ax++⟨#[44,32]⟩++aU++⟨#[41]⟩,P,gj WkS am λz X W ao=>WkE⟩
 ·obtain⟨bx,cq,E3⟩:=G (1) xaa (P);exact⟨⟨#[115,101,108,40]⟩++bx++⟨#[44,32]⟩++ax++⟨#[44,32]⟩++aU++⟨#[41]⟩,cq,gj WkS am λz X W ao=>WkE⟩
 ·exact⟨⟨#[101,120,112,40]⟩++ax++⟨#[41]⟩,aO,gj WkS am λz X W ao=>WkE⟩
 ·obtain⟨aZ,bm,A⟩:=olD (bs:=bs) au (0) (ni bs i);obtain⟨ax,aO,E1⟩:=G (q) xaa (bm);rcases Ak aZ with⟨bn,bb⟩|⟨bn,bb⟩
  ·exact⟨ax,aO,gj WkS am λz X W ao=>WkE⟩
  exact⟨aZ++⟨#[40]⟩++ax++⟨#[41]⟩,aO,gj WkS am λz X W ao=>WkE⟩
 rcases (by omega:q=1\/q=2\/q=3) with rfl|rfl|rfl
 ·rcases (by omega:((nv bs i:Int)%24=16\/(nv bs i:Int)%24=17\/(nv bs i:Int)%24=18\/(nv bs i:Int)%24=19\/(nv bs i:Int)%24=20\/(nv bs i:Int)%24=21)\/((nv bs i:Int)%24=22)\/((nv bs i:Int)%24=23)) with C|C|C
  ·obtain⟨aZ,bm,A⟩:=olD (bs:=bs) au (1+(nv bs (ni bs i):Int)%3) (ni bs (ni bs i));obtain⟨ax,aO,E1⟩:=G (1) xaa (bm);obtain⟨aU,P,E2⟩:=G (1) xaa (aO);rcases Ak aZ with⟨bn,bb⟩|⟨bn,bb⟩
   ·rcases C with C|C|C|C|C|C<;>exact⟨ax,P,gj WkS am λz X W ao=>WkE⟩
   rcases C with C|C|C|C|C|C<;>exact⟨⟨#[106,118,112,40]⟩++ax++⟨#[44,32]⟩++aZ++⟨#[44,32]⟩++aU++⟨#[41]⟩,P,gj WkS am λz X W ao=>WkE⟩
  ·obtain⟨ax,aO,E1⟩:=G (1+(nv bs (ni bs i):Int)%3) xaa (ni bs (ni bs i));exact⟨⟨#[115,117,109,40]⟩++ax++⟨#[41]⟩,aO,gj WkS am λz X W ao=>WkE⟩
  obtain⟨ax,aO,E1⟩:=G (1+(nv bs (ni bs i):Int)%3) xaa (ni bs (ni bs i));rcases (by omega:(nv bs aO:Int)%3=0\/(nv bs aO:Int)%3=1\/(nv bs aO:Int)%3=2) with aW|aW|aW
  ·obtain⟨sv,D⟩:=dcD (env:=env) (bs:=bs) (by omega:(0:Int)<=1+(nv bs (ni bs i):Int)%3-1) xaa;exact⟨⟨#[112,105,99,107,40]⟩++ax++⟨#[44,32]⟩++sv++⟨#[41]⟩,ni bs aO,gj WkS am λz X W ao=>WkE⟩
  ·obtain⟨aU,P,E2⟩:=G (1+(nv bs (ni bs i):Int)%3) xaa (ni bs aO);exact⟨⟨#[100,111,116,40]⟩++ax++⟨#[44,32]⟩++aU++⟨#[41]⟩,P,gj WkS am λz X W ao=>WkE⟩
  obtain⟨aZ,bm,A⟩:=olD (bs:=bs) au (1) (ni bs aO);obtain⟨aU,P,E2⟩:=G (1) xaa (bm);rcases Ak aZ with⟨bn,bb⟩|⟨bn,bb⟩
  ·exact⟨aU,P,gj WkS am λz X W ao=>WkE⟩
  exact⟨⟨#[103,114,97,100,40]⟩++aU++⟨#[44,32]⟩++aZ++⟨#[41]⟩,P,gj WkS am λz X W ao=>WkE⟩
 ·rcases (by omega:(((nv bs i:Int)%24=16\/(nv bs i:Int)%24=17)\/((nv bs i:Int)%24=18\/(nv bs i:Int)%24=19))\/((nv bs i:Int)%24=20\/(nv bs i:Int)%24=21)\/((nv bs i:Int)%24=22\/(nv bs i:Int)%24=23)) with C|C|C
  ·obtain⟨aZ,bm,A⟩:=olD (bs:=bs) au (2) (ni bs i);obtain⟨ax,aO,E1⟩:=G (1) xaa (bm);obtain⟨sv,D⟩:=dcD (env:=env) (bs:=bs) (by omega:(0:Int)<=((nv bs aO:Int)%2)) xaa;obtain⟨e,V⟩:=dcD (env:=env) (bs:=bs) (by omega:(0:Int)<=2) xaa;exact xbq
  ·obtain⟨aZ,bm,A⟩:=olD (bs:=bs) au (1+(nv bs (ni bs i):Int)%3) (ni bs (ni bs i));obtain⟨ax,aO,E1⟩:=G (2) xaa (bm);exact xdc
  rcases C with C|C<;>exact⟨g,f,gj WkS am λz X W ao=>WkE⟩
 rcases (by omega:(((nv bs i:Int)%24=16\/(nv bs i:Int)%24=17)\/((nv bs i:Int)%24=18\/(nv bs i:Int)%24=19))\/((nv bs i:Int)%24=20\/(nv bs i:Int)%24=21)\/((nv bs i:Int)%24=22\/(nv bs i:Int)%24=23)) with C|C|C
 ·obtain⟨aZ,bm,A⟩:=olD (bs:=bs) au (3) (ni bs i);obtain⟨ax,aO,E1⟩:=G (1) xaa (bm);obtain⟨sv,D⟩:=dcD (env:=env) (bs:=bs) (by omega:(0:Int)<=((nv bs aO:Int)%3)) xaa;obtain⟨e,V⟩:=dcD (env:=env) (bs:=bs) (by omega:(0:Int)<=3) xaa;exact xbq
 ·obtain⟨aZ,bm,A⟩:=olD (bs:=bs) au (1+(nv bs (ni bs i):Int)%3) (ni bs (ni bs i));obtain⟨ax,aO,E1⟩:=G (3) xaa (bm);exact xdc
 rcases C with C|C<;>exact⟨g,f,gj WkS am λz X W ao=>WkE⟩
