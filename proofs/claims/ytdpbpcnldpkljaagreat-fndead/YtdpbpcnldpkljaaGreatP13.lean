import Derived.Test.YtdpbpcnldpkljaaGreatP12
namespace Go.Proofs.Z
open Tryz
set_option maxRecDepth 1000000
set_option maxHeartbeats 0
open Go.RowKit Flt
attribute [local go_sem] eD eB eA
variable {w w' b c:World} {k base g lo hi l n cap h:Nat} {T S:Nat->Prop} {u y:Vl} {ins outs:List Int} {xs:List Bool} {r:Int} {a:Option Addr} {vs:List Vl}
theorem Ft {op:Int}(h0:0<=op)(h1:op<=13):ig op=cnt op:=by
 rcases (by omega:op=0\/op=1\/op=2\/op=3\/op=4\/op=5\/op=6\/op=7\/op=8\/op=9\/op=10\/op=11\/op=12\/op=13) with rfl|rfl|rfl|rfl|rfl|rfl|rfl|rfl|rfl|rfl|rfl|rfl|rfl|rfl<;>decide
theorem rG {i:Nat}(h:okV ins vs i=true):0<=(vs.getD i Vl.zero).op/\(vs.getD i Vl.zero).op<=13:=by
 unfold okV at h
 generalize vs.getD i Vl.zero=v at*
 rw[Bool.and_eq_true] at h
 have h3:=h.2
 by_cases h0:v.op=0
 ·omega
 ·rw[if_neg h0,Bool.and_eq_true] at h3
  have h4:=h3.2
  unfold eQ at h4
  by_cases c:9<=v.op/\v.op<=12
  ·omega
  ·rw[if_neg xaa,if_neg xaa,if_neg xaa,if_neg xaa] at h4
   by_cases d:1<=v.op/\v.op<=13
   ·omega
   ·rw[if_neg d] at h4;cases h4
theorem IS.at_idx {xs:List Int}(f:IS w lo hi a n xs){o:Int}(h0:0<=o)(h1:o<n):∃g off k,a=some ⟨g,off,none⟩/\o=(k:Nat)/\k<n/\g<w.heap.size/\w.cell? ⟨g,off+k,none⟩=some (.int .i64 (xs.getD o.toNat 0)):=by
 rcases f.at_ with z|⟨g,off,e,_,_,z3,z4⟩
 ·omega
 ·exact⟨g,off,o.toNat,e,by omega,by omega,z3,z4 o.toNat xaa⟩
theorem kC {o:Nat}{x:Value}(hg:g<w.heap.size)(h:w.cell? ⟨g,o,none⟩=some x)(o1 o2 o3:Obj):(((w.alloc o1).alloc o2).alloc o3).cell? ⟨g,o,none⟩=some x:=
 jN (((ez 0 0 w o1).trans (ez 0 0 _ o2)).trans (ez 0 0 _ o3)) hg h
theorem uN (w:World)(op len A B C:Int)(K q g off n cap:Nat)(a:Option Addr)(x y z:Int)(hq:q<=3)(ha:1<=q->a=some ⟨g,off,none⟩/\g<w.heap.size)
  (HC:Hid (∀w,Calls prog 36 #[.int .i64 op] w λe w'=>e=.returned (.int .i64 (q:Nat))/\w'=w))
  (hA:1<=q->∃k:Nat,A=k/\k<n/\w.cell? ⟨g,off+k,none⟩=some (.int .i64 x)) (hB:2<=q->∃k:Nat,B=k/\k<n/\w.cell? ⟨g,off+k,none⟩=some (.int .i64 y)) (hC:3<=q->∃k:Nat,C=k/\k<n/\w.cell? ⟨g,off+k,none⟩=some (.int .i64 z)):
  Calls prog 53 #[ib op len A B C K,.slice a n cap] w λe w'=>e=.returned (ib op len (if 0<q then x else A) (if 1<q then y else B) (if 2<q then z else C) K)/\Kept 0 0 w w':=by
 rcases (by omega:q=0\/q=1\/q=2\/q=3) with rfl|rfl|rfl|rfl
 ·clear hA hB hC ha
  go_enter func53,ntmps53
  go_wp2_with (go_at_call 36;refine(HC.out _).mono ?_;rintro e w2 ⟨rfl,rfl⟩)
  refine yay (v:=ib op len A B C K) (by simp[results,results53,go_sem]) rfl ⟨rfl,?_⟩
  first|exact((ez 0 0 w _).trans (ez 0 0 _ _))|exact((ez 0 0 w _).trans (ez 0 0 _ _)).trans (ez 0 0 _ _)
 ·obtain⟨rfl,hg⟩:=ha xaa
  have hne:w.heap.size≠g:=xaa
  have hne2:w.heap.size+1≠g:=xaa
  have hne3:w.heap.size+1+1≠g:=xaa
  obtain⟨k1,rfl,l1,e1⟩:=hA xaa
  clear hA hB hC ha
  go_enter func53,ntmps53
  go_wp2_with (go_at_call 36;refine(HC.out _).mono ?_;rintro e w2 ⟨rfl,rfl⟩)
  refine yay (v:=ib op len x B C K) (by simp[results,results53,go_sem]) rfl ⟨rfl,?_⟩
  first|exact((ez 0 0 w _).trans (ez 0 0 _ _))|exact((ez 0 0 w _).trans (ez 0 0 _ _)).trans (ez 0 0 _ _)
 ·obtain⟨rfl,hg⟩:=ha xaa
  have hne:w.heap.size≠g:=xaa
  have hne2:w.heap.size+1≠g:=xaa
  have hne3:w.heap.size+1+1≠g:=xaa
  obtain⟨k1,rfl,l1,e1⟩:=hA xaa
  obtain⟨k2,rfl,l2,e2⟩:=hB xaa
  clear hA hB hC ha
  go_enter func53,ntmps53
  go_wp2_with (go_at_call 36;refine(HC.out _).mono ?_;rintro e w2 ⟨rfl,rfl⟩)
  refine yay (v:=ib op len x y C K) (by simp[results,results53,go_sem]) rfl ⟨rfl,?_⟩
  first|exact((ez 0 0 w _).trans (ez 0 0 _ _))|exact((ez 0 0 w _).trans (ez 0 0 _ _)).trans (ez 0 0 _ _)
 ·obtain⟨rfl,hg⟩:=ha xaa
  have hne:w.heap.size≠g:=xaa
  have hne2:w.heap.size+1≠g:=xaa
  have hne3:w.heap.size+1+1≠g:=xaa
  obtain⟨k1,rfl,l1,e1⟩:=hA xaa
  obtain⟨k2,rfl,l2,e2⟩:=hB xaa
  obtain⟨k3,rfl,l3,e3⟩:=hC xaa
  clear hA hB hC ha
  go_enter func53,ntmps53
  go_wp2_with (go_at_call 36;refine(HC.out _).mono ?_;rintro e w2 ⟨rfl,rfl⟩)
  refine yay (v:=ib op len x y z K) (by simp[results,results53,go_sem]) rfl ⟨rfl,?_⟩
  first|exact((ez 0 0 w _).trans (ez 0 0 _ _))|exact((ez 0 0 w _).trans (ez 0 0 _ _)).trans (ez 0 0 _ _)
theorem xw (w:World)(op len A B C:Int)(K q g off n cap:Nat)(a:Option Addr)(x y z:Int)(hq:q<=3)(ha:1<=q->a=some ⟨g,off,none⟩/\g<w.heap.size)
  (HC:Hid (∀w,Calls prog 119 #[.int .i64 op] w λe w'=>e=.returned (.int .i64 (q:Nat))/\w'=w))
  (hA:1<=q->∃k:Nat,A=k/\k<n/\w.cell? ⟨g,off+k,none⟩=some (.int .i64 x)) (hB:2<=q->∃k:Nat,B=k/\k<n/\w.cell? ⟨g,off+k,none⟩=some (.int .i64 y)) (hC:3<=q->∃k:Nat,C=k/\k<n/\w.cell? ⟨g,off+k,none⟩=some (.int .i64 z)):
  Calls prog 90 #[ib op len A B C K,.slice a n cap] w λe w'=>e=.returned (ib op len (if 0<q then x else A) (if 1<q then y else B) (if 2<q then z else C) K)/\Kept 0 0 w w':=by
 rcases (by omega:q=0\/q=1\/q=2\/q=3) with rfl|rfl|rfl|rfl
 ·clear hA hB hC ha
  go_enter func90,ntmps90
  go_wp2_with (go_at_call 119;refine(HC.out _).mono ?_;rintro e w2 ⟨rfl,rfl⟩)
  refine wp_loop_rounds 1 ?_
  rw[rounds_succ]
  go_wp2
  refine yay (v:=ib op len A B C K) (by simp[results,results90,go_sem]) rfl ⟨rfl,?_⟩
  first|exact((ez 0 0 w _).trans (ez 0 0 _ _))|exact((ez 0 0 w _).trans (ez 0 0 _ _)).trans (ez 0 0 _ _)
 ·obtain⟨rfl,hg⟩:=ha xaa
  have hne:w.heap.size≠g:=xaa
  have hne2:w.heap.size+1≠g:=xaa
  have hne3:w.heap.size+1+1≠g:=xaa
  obtain⟨k1,rfl,l1,e1⟩:=hA xaa
  clear hA hB hC ha
  have E1:=kC hg e1
  go_enter func90,ntmps90
  go_wp2_with (go_at_call 119;refine(HC.out _).mono ?_;rintro e w2 ⟨rfl,rfl⟩)
  refine wp_loop_rounds 2 ?_
  rw[rounds_succ]
  go_wp2
  rw[rounds_succ]
  go_wp2
  refine yay (v:=ib op len x B C K) (by simp[results,results90,go_sem]) rfl ⟨rfl,?_⟩
  first|exact((ez 0 0 w _).trans (ez 0 0 _ _))|exact((ez 0 0 w _).trans (ez 0 0 _ _)).trans (ez 0 0 _ _)
 ·obtain⟨rfl,hg⟩:=ha xaa
  have hne:w.heap.size≠g:=xaa
  have hne2:w.heap.size+1≠g:=xaa
  have hne3:w.heap.size+1+1≠g:=xaa
  obtain⟨k1,rfl,l1,e1⟩:=hA xaa
  obtain⟨k2,rfl,l2,e2⟩:=hB xaa
  clear hA hB hC ha
  have E1:=kC hg e1
  have E2:=kC hg e2
  go_enter func90,ntmps90
  go_wp2_with (go_at_call 119;refine(HC.out _).mono ?_;rintro e w2 ⟨rfl,rfl⟩)
  refine wp_loop_rounds 3 ?_
  rw[rounds_succ]
  go_wp2
  rw[rounds_succ]
  go_wp2
  rw[rounds_succ]
  go_wp2
  refine yay (v:=ib op len x y C K) (by simp[results,results90,go_sem]) rfl ⟨rfl,?_⟩
  first|exact((ez 0 0 w _).trans (ez 0 0 _ _))|exact((ez 0 0 w _).trans (ez 0 0 _ _)).trans (ez 0 0 _ _)
 ·obtain⟨rfl,hg⟩:=ha xaa
  have hne:w.heap.size≠g:=xaa
  have hne2:w.heap.size+1≠g:=xaa
  have hne3:w.heap.size+1+1≠g:=xaa
  obtain⟨k1,rfl,l1,e1⟩:=hA xaa
  obtain⟨k2,rfl,l2,e2⟩:=hB xaa
  obtain⟨k3,rfl,l3,e3⟩:=hC xaa
  clear hA hB hC ha
  have E1:=kC hg e1
  have E2:=kC hg e2
  have E3:=kC hg e3
  go_enter func90,ntmps90
  go_wp2_with (go_at_call 119;refine(HC.out _).mono ?_;rintro e w2 ⟨rfl,rfl⟩)
  refine wp_loop_rounds 4 ?_
  rw[rounds_succ]
  go_wp2
  rw[rounds_succ]
  go_wp2
  rw[rounds_succ]
  go_wp2
  rw[rounds_succ]
  go_wp2
  refine yay (v:=ib op len x y z K) (by simp[results,results90,go_sem]) rfl ⟨rfl,?_⟩
  first|exact((ez 0 0 w _).trans (ez 0 0 _ _))|exact((ez 0 0 w _).trans (ez 0 0 _ _)).trans (ez 0 0 _ _)
theorem Fu (w:World)(v:Vl)(lo hi:Nat)(a:Option Addr)(n cap:Nat)(tq:List Int)(f:IS w lo hi a n tq)(hop:0<=v.op/\v.op<=13)(h:∀o∈eN v,0<=o/\o<n):
  Calls prog 53 #[v.agg,.slice a n cap] w λe w'=>e=.returned (rnm tq v).agg/\Kept 0 0 w w':=by
 have hc:=gX v.op
 have key:∀o,o∈eN v->∃g off k,a=some ⟨g,off,none⟩/\o=(k:Nat)/\k<n/\g<w.heap.size/\w.cell? ⟨g,off+k,none⟩=some (.int .i64 (tq.getD o.toNat 0)):=λo ho=>f.at_idx (h o ho).1 (h o ho).2
 obtain⟨g,off,ha⟩:∃g off,1<=cnt v.op->a=some ⟨g,off,none⟩/\g<w.heap.size:=by
  exact xgm
 have rd:∀o,o∈eN v->1<=cnt v.op->∃k:Nat,o=k/\k<n/\w.cell? ⟨g,off+k,none⟩=some (.int .i64 (tq.getD o.toNat 0)):=λo ho c=>by
  exact xhr
 exact uN w v.op v.len v.a v.b v.c v.k (cnt v.op) g off n cap a (tq.getD v.a.toNat 0) (tq.getD v.b.toNat 0) (tq.getD v.c.toNat 0) hc ha (λw=>by have:=eV v.op w hop.1 hop.2;rw[Ft hop.1 hop.2] at this;exact this) (λc=>rd _ (oI c) c) (λc=>rd _ (vX c) xaa) (λc=>rd _ (vY c) xaa)
theorem Hu (w:World)(v:Vl)(lo hi:Nat)(a:Option Addr)(n cap:Nat)(tq:List Int)(f:IS w lo hi a n tq)(h:∀o∈eN v,0<=o/\o<n):
  Calls prog 90 #[v.agg,.slice a n cap] w λe w'=>e=.returned (rnm tq v).agg/\Kept 0 0 w w':=by
 have hc:=gX v.op
 have key:∀o,o∈eN v->∃g off k,a=some ⟨g,off,none⟩/\o=(k:Nat)/\k<n/\g<w.heap.size/\w.cell? ⟨g,off+k,none⟩=some (.int .i64 (tq.getD o.toNat 0)):=λo ho=>f.at_idx (h o ho).1 (h o ho).2
 obtain⟨g,off,ha⟩:∃g off,1<=cnt v.op->a=some ⟨g,off,none⟩/\g<w.heap.size:=by
  exact xgm
 have rd:∀o,o∈eN v->1<=cnt v.op->∃k:Nat,o=k/\k<n/\w.cell? ⟨g,off+k,none⟩=some (.int .i64 (tq.getD o.toNat 0)):=λo ho c=>by
  exact xhr
 exact xw w v.op v.len v.a v.b v.c v.k (cnt v.op) g off n cap a (tq.getD v.a.toNat 0) (tq.getD v.b.toNat 0) (tq.getD v.c.toNat 0) hc ha (λw=>rA v.op w) (λc=>rd _ (oI c) c) (λc=>rd _ (vX c) xaa) (λc=>rd _ (vY c) xaa)
theorem VS.at_idx (f:VS w lo hi a n vs){i:Nat}(h:i<n):∃g off,a=some ⟨g,off,none⟩/\g<w.heap.size/\g<hi/\lo<=g/\At w g (off+i*6) (vs.getD i Vl.zero):=by
 rcases f.at_ with z|⟨g,off,e,z1,z2,z3,z4⟩
 ·omega
 ·exact⟨g,off,e,z3,z2,z1,z4 i h⟩
theorem VS.keepC (f:VS w lo hi a n vs)(k:Chg S w w')(hd:∀g,lo<=g->g<hi->¬S g):VS w' lo hi a n vs:=
 ⟨f.len,f.lt,by
  rcases f.at_ with z|⟨g,off,e,z1,z2,z3,z4⟩
  ·exact .inl z
  ·refine .inr ⟨g,off,e,z1,z2,yaj z3 k.size,λj hj=>?_⟩
   have e:∀o,w'.cell? ⟨g,o,none⟩=w.cell? ⟨g,o,none⟩:=λo=>k.cell (p:=⟨g,o,none⟩) z3 (hd g z1 z2)
   obtain⟨c0,c1,c2,c3,c4,c5⟩:=z4 j hj
   exact⟨by rw[e];exact c0,by rw[e];exact c1,by rw[e];exact c2,by rw[e];exact c3,by rw[e];exact c4,by rw[e];exact c5⟩⟩
theorem IS.keepC {xs:List Int}(f:IS w lo hi a n xs)(k:Chg S w w')(hd:∀g,lo<=g->g<hi->¬S g):IS w' lo hi a n xs:=
 ⟨f.len,by
  rcases f.at_ with z|⟨g,off,e,z1,z2,z3,z4⟩
  ·exact .inl z
  ·exact .inr ⟨g,off,e,z1,z2,yaj z3 k.size,λj hj=>by rw[k.cell (p:=⟨g,off+j,none⟩) z3 (hd g z1 z2)];exact z4 j hj⟩⟩
theorem qt (v:Vl){q:Nat}(hq:q<cnt v.op):(eN v).getD q 0=fld v q:=by
 have:=gX v.op
 unfold eN
 rw[yah,List.getElem?_take_of_lt hq]
 rcases (by omega:q=0\/q=1\/q=2) with rfl|rfl|rfl<;>rfl
theorem ze (op:Int)(h0:0<=op)(h1:op<=13)(w:World):Calls prog 36 #[.int .i64 op] w λe w'=>e=.returned (.int .i64 (cnt op:Nat))/\w=w':=by
 have:=eV op w h0 h1
 rw[Ft h0 h1] at this
 exact this.mono λ_ _ h=>⟨h.1,h.2.symm⟩
theorem fj {e size:Nat}{v:Value}{xs:List Value}{W W':World}(o:W.ownsRow base e size v n xs)(k:Chg S W W')(hd:∀g,v.ownBlock=some g->¬S g):W'.ownsRow base e size v n xs:=by
 refine⟨o.1,o.2.imp id ?_⟩
 rintro⟨g,cap,cur,e1,b1,b2,b3⟩
 refine⟨g,cap,cur,e1,b1,?_,b3⟩
 have hg:g<W.heap.size:=by
  exact xbf
 rw[k.block g hg (hd g (by rw[e1];rfl))]
 exact b2
theorem gD {row:Option Nat}(h:w.grownBy w' row):Chg (λb=>row=some b) w w':=
 ⟨h.os,h.tape,h.output,h.size,λk hk hn=>h.block k hk (λc=>hn c.symm)⟩
theorem zh {i:Nat}(hk:k<outs.length)(h:(outs.take k).any (λo=>o==(i:Int))=false)(t:(outs.getD k 0==(i:Int))=false):(outs.take (k+1)).any (λo=>o==(i:Int))=false:=by
 rw[yat hk,List.any_append,h]
 exact xjd
theorem zi (w:World)(b1 b2 b3:Option Addr)(n1 c1 n2 c2 n3 c3 i lo hi:Nat)(outs:List Int)(f:IS w lo hi b3 n3 outs)(hn:n3<=1000000):
  Calls prog 51 #[eR b1 n1 c1 b2 n2 c2 b3 n3 c3,.int .i64 (i:Nat)] w λe w'=>e=.returned (.bool (isO outs i))/\Kept 0 0 w w':=by
 have k0:=ez 0 0 w (eP b1 n1 c1 b2 n2 c2 b3 n3 c3)
 have HB:Hid _:=fE w (.slice b1 n1 c1) (.slice b2 n2 c2) (.slice b3 n3 c3)
 have HF:Hid _:=f.keep k0 yaa
 have HL:Hid (outs.length=n3):=f.len
 have HK:Hid _:=k0
 clear f k0
 go_enter func51,ntmps51
 go_wp2_with fail
 generalize w.alloc (eP b1 n1 c1 b2 n2 c2 b3 n3 c3)=w1 at HB HF HK ⊢
 go_loop [5] (λx=>∃k:Nat,k<=n3/\x=.int .i64 k/\Hid ((outs.take k).any (λo=>o==(i:Int))=false)) (λx=>n3-(intOf x).toNat)
 case atStart=>exact⟨0,Nat.zero_le _,rfl,rfl⟩
 case round=>
  obtain⟨k,hk,rfl,hA⟩:=hrel
  obtain⟨_,q0,q1,q2⟩:=HB.out
  by_cases hlt:k<n3
  ·obtain⟨g,off,m,rfl,em,hm,hg,c1'⟩:=HF.out.at_idx (o:=k) xaa xaa
   obtain rfl:k=m:=xaa
   rw[Int.toNat_natCast] at c1'
   cases t:(outs.getD k 0==(i:Int))
   ·have R:Hid _:=zh (by rw[HL.out];exact hlt) hA.out t
    generalize outs.getD k 0=x at c1' t
    clear hA
    exact xeu
   ·have R:Hid (isO outs i=true):=by
     show _=_
     unfold isO
     rw[List.any_eq_true]
     exact⟨outs.getD k 0,iR (by rw[HL.out];exact hlt),t⟩
    generalize outs.getD k 0=x at c1' t
    clear hA
    go_wp2
    go_ret
    exact⟨by rw[R.out];rfl,HK.out⟩
  ·obtain rfl:k=n3:=xaa
   have R:Hid (isO outs i=false):=by
    exact xix
   clear hA
   go_wp2
   go_ret
   exact⟨by rw[R.out];rfl,HK.out⟩
def BR (w:World)(g:Nat)(xs:List Bool):Prop:=w.heap[g]? =some (.cells (xs.map Value.bool).toArray 4 (0,0))
theorem BR.lt (h:BR w g xs):g<w.heap.size:=by
 unfold BR at h
 exact xhy
theorem BR.cell (h:BR w g xs)(k:Nat)(hk:k<xs.length):w.cell? ⟨g,k,none⟩=some (.bool (xs.getD k false)):=by
 exact xjr
theorem BR.free (h:BR w g xs)(k:Nat):w.frozen? ⟨g,k,none⟩=false:=frozen_of_row w g k _ _ h
theorem BR.keep (f:BR w g xs)(k:Kept l h w w')(hd:g<l\/h<=g\/h<=l):BR w' g xs:=by
 unfold BR
 rw[k.block g f.lt xaa]
 exact f
theorem BR.keepC (f:BR w g xs)(k:Chg S w w')(hd:¬S g):BR w' g xs:=by
 unfold BR
 rw[k.block g f.lt hd]
 exact f
theorem BR.set (h:BR w g xs)(k:Nat)(x:Bool):BR (w.setCell ⟨g,k,none⟩ (.bool x)) g (xs.set k x):=by
 unfold BR at h ⊢
 rw[heap_setCell_same w g k _ _ _ h]
 simp[List.map_set]
theorem BR.made (w:World)(n:Nat):BR (w.alloc (.cells (madeCells #[.bool false] n) 4)) w.heap.size (List.replicate n false):=by
 unfold BR
 rw[heap_alloc_new]
 have:(madeCells #[.bool false] n)=(List.map Value.bool (List.replicate n false)).toArray:=by
  apply Array.toList_inj.1
  rw[toList_madeCells_one]
  simp
 rw[this]
theorem Hv:(prog.info? 4).map (λi=>(i.zero,i.size,i.bytes))=some (some (.bool false),1,1):=by kernel_rfl
theorem rH (n:Nat)(w:World)(hn:n<=1099511627776):
  (Instr.makeSlice 32 (.int .i64 (n:Int)) (.int .i64 (n:Int))).run prog w=.ok (.slice (some ⟨w.heap.size,0,none⟩) n n) (w.alloc (.cells (madeCells #[.bool false] n) 4)):=by
 obtain⟨i,hi,hz0,hz1,hz2⟩:=info_parts Hv
 have:=run_make (P:=prog) w 32 4 i (.bool false) underlying32 hi hz0 .i64 .i64 n n xaa xaa (by rw[hz2];omega) xaa
 rw[hz1,Nat.mul_one,Int.toNat_natCast] at this
 exact this
theorem IR.keepC {xs:List Int}(f:IR w g xs)(k:Chg S w w')(hd:¬S g):IR w' g xs:=by
 unfold IR
 rw[k.block g f.lt hd]
 exact f
theorem VA.keepC (q:VA w g n vs)(k:Chg S w w')(hd:¬S g):VA w' g n vs:=
 ⟨q.len,yaj q.lt k.size,λj hj=>by
  have e:∀o,w'.cell? ⟨g,o,none⟩=w.cell? ⟨g,o,none⟩:=λo=>k.cell (p:=⟨g,o,none⟩) q.lt hd
  obtain⟨c0,c1,c2,c3,c4,c5⟩:=q.at_ j hj
  exact⟨by rw[e];exact c0,by rw[e];exact c1,by rw[e];exact c2,by rw[e];exact c3,by rw[e];exact c4,by rw[e];exact c5⟩,λo=>by rw[k.frozen (p:=⟨g,o,none⟩) q.lt hd];exact q.free o⟩
theorem IBk.keepC {xs:List Int}(q:IBk w g n xs)(k:Chg S w w')(hd:¬S g):IBk w' g n xs:=
 ⟨q.len,yaj q.lt k.size,λj hj=>by rw[k.cell (p:=⟨g,j,none⟩) q.lt hd];exact q.at_ j hj,λo=>by rw[k.frozen (p:=⟨g,o,none⟩) q.lt hd];exact q.free o⟩
theorem Chg.mono (h:Chg S w w')(hs:∀b,b<w.heap.size->S b->T b):Chg T w w':=
 ⟨h.os,h.tape,h.output,h.size,λk hk hn=>h.block k hk λc=>hn (hs k hk c)⟩
theorem Chg.trans {a:World}(h:Chg S a b)(k:Chg S b c):Chg S a c:=Chg.andThen h k
theorem Chg.new {a:World}(h:Chg S a b)(k:Chg T b c)(hT:∀i,i<a.heap.size->T i->S i):Chg S a c:=
 ⟨k.os.trans h.os,k.tape.trans h.tape,k.output.trans h.output,yan h.size k.size,λi hi hn=>(k.block i (yaj hi h.size) (λc=>hn (hT i hi c))).trans (h.block i hi hn)⟩
theorem lB (w:World)(g o:Nat)(v:Value)(h:S g):Chg S w (w.setCell ⟨g,o,none⟩ v):=
 (eL (lo:=g) (hi:=g+1) w ⟨g,o,none⟩ v yac).chg1 h
structure PG (w:World)(g1 g2 g3 n1 n2 n3:Nat)(ins:List Int)(vs:List Vl)(outs:List Int):Prop where
 i:IBk w g1 n1 ins
 v:VA w g2 n2 vs
 o:IBk w g3 n3 outs
 d12:g1≠g2
 d13:g1≠g3
 d23:g2≠g3
theorem PG.keep {g1 g2 g3 n1 n2 n3:Nat}(f:PG w g1 g2 g3 n1 n2 n3 ins vs outs)(k:Kept 0 0 w w'):PG w' g1 g2 g3 n1 n2 n3 ins vs outs:=
 ⟨f.i.keep k yaa,f.v.keep k yaa,f.o.keep k yaa,f.d12,f.d13,f.d23⟩
theorem uO {W:World}{gk:Nat}{ks:List Vl}(h:W.ownsRow base 35 6 (.slice (some ⟨gk,0,none⟩) n cap) n (fp ks))(hl:ks.length=n):VA W gk n ks/\base<=gk:=by
 rcases Nat.eq_zero_or_pos n with h0|h0
 ·subst h0
  rcases h.2 with⟨e,_⟩|⟨g,c,cur,e,b1,b2,b3⟩
  ·cases e
  ·cases e
   have hlt:gk<W.heap.size:=by
    rcases Nat.lt_or_ge gk W.heap.size with c|c
    ·exact c
    ·rw[Array.getElem?_eq_none c] at b2;cases b2
   exact⟨⟨hl,hlt,λk hk=>by omega,λo=>frozen_of_row W gk o _ _ b2⟩,b1⟩
 ·obtain⟨g,c,e,h1,_,_,hA⟩:=kr h h0 hl
  cases e
  exact⟨hA,h1⟩
theorem v9 {W:World}{G:Nat}{xs:List Int}(h:OI W base G n cap xs)(hl:xs.length=n):IBk W G n xs:=by
 rcases Nat.eq_zero_or_pos n with h0|h0
 ·subst h0
  rcases h.2 with⟨e,_⟩|⟨g,c,cur,e,b1,b2,b3⟩
  ·cases e
  ·cases e
   have hlt:G<W.heap.size:=by
    rcases Nat.lt_or_ge G W.heap.size with c|c
    ·exact c
    ·rw[Array.getElem?_eq_none c] at b2;cases b2
   exact⟨hl,hlt,λk hk=>by omega,λo=>frozen_of_row W G o _ _ b2⟩
 ·rcases uM h hl with h1|⟨g,e,_,h1⟩
  ·omega
  ·cases e;exact h1
def jD (k n:Nat):List Int:=List.replicate k (-1)++List.replicate (n-k) 0
theorem qu (k n:Nat)(h:k<=n):(jD k n).length=n:=by simp[jD];omega
theorem qw (n:Nat):jD n n=List.replicate n (-1):=by simp[jD]
theorem qx (h:k<n):(jD k n).set k (-1)=jD (k+1) n:=by
 apply List.ext_getElem?
 intro j
 unfold jD
 rw[List.getElem?_set]
 by_cases e:k=j
 ·subst e
  rw[if_pos rfl,if_pos yaf,yas xac]
  simp
 ·rw[if_neg e]
  rcases Nat.lt_or_ge j k with c|c
  ·rw[yas yaf,yas yaf]
   simp[c,(by omega:j<k+1)]
  ·rw[yar yaf,yar yaf]
   simp[List.getElem?_replicate]
   congr 1
   simp;omega
def jmv (vs0:List Vl)(i:Nat)(st:List Vl×List Int):List Vl×Int:=
 mvM (i:Int) (vs0.getD i Vl.zero) (ovs (vs0.getD i Vl.zero) st.2 (cnt (vs0.getD i Vl.zero).op) 0) (ovs (vs0.getD i Vl.zero) st.2 (cnt (vs0.getD i Vl.zero).op) 1) (ovs (vs0.getD i Vl.zero) st.2 (cnt (vs0.getD i Vl.zero).op) 2) st.1.length
def jst (vs0:List Vl)(x t:Nat):Nat->List Vl×List Int
 |0=>(vs0,(List.replicate vs0.length (-1)).set x (t:Int))
 |k+1=>((jst vs0 x t k).1++(jmv vs0 (x+1+k) (jst vs0 x t k)).1,(jst vs0 x t k).2.set (x+1+k) (jmv vs0 (x+1+k) (jst vs0 x t k)).2)
theorem oK (vs0:List Vl)(x t:Nat):∀k,(jst vs0 x t k).2.length=vs0.length
 |0=>by simp[jst]
 |k+1=>by simp[jst,oK vs0 x t k]
theorem rI (vs0:List Vl)(x t:Nat):∀k,∃r,(jst vs0 x t k).1=vs0++r
 |0=>⟨[],by simp[jst]⟩
 |k+1=>by
  obtain⟨r,h⟩:=rI vs0 x t k
  exact⟨r++(jmv vs0 (x+1+k) (jst vs0 x t k)).1,by rw[jst,h,List.append_assoc]⟩
theorem wa (vs0:List Vl)(x t k:Nat){i:Nat}(hi:i<vs0.length):(jst vs0 x t k).1.getD i Vl.zero=vs0.getD i Vl.zero:=by
 obtain⟨r,h⟩:=rI vs0 x t k
 rw[h,yah,yas hi,<-yah]
def Sz (k:Nat)(M:List Vl×Int):Prop:=M.1.length<=k/\0<=eX M.1/\eX M.1<=1000*(k:Int)
theorem g7 {p:Prop}[Decidable p]{a b:List Vl×Int}(ha:Sz k a)(hb:Sz k b):Sz k (if p then a else b):=by
 by_cases h:p
 ·rw[if_pos h];exact ha
 ·rw[if_neg h];exact hb
theorem uP:Sz k ([],r):=by unfold Sz;simp only[eX,List.length_nil];omega
theorem rJ {v:Vl}(hk:1<=k)(h0:0<=v.len)(h1:v.len<=1000):Sz k ([v],r):=by unfold Sz;simp only[eX,yap,List.length_nil];omega
theorem Hw {v:Vl}(hk:2<=k)(h0:0<=v.len)(h1:v.len<=1000)(h2:0<=u.len)(h3:u.len<=1000):Sz k ([v,u],r):=by unfold Sz;simp only[eX,yap,List.length_nil];omega
theorem Fv {v:Vl}(hk:3<=k)(h0:0<=v.len)(h1:v.len<=1000)(h2:0<=u.len)(h3:u.len<=1000)(h4:0<=y.len)(h5:y.len<=1000):Sz k ([v,u,y],r):=by unfold Sz;simp only[eX,yap,List.length_nil];omega
theorem IX {v z:Vl}(hk:4<=k)(h0:0<=v.len)(h1:v.len<=1000)(h2:0<=u.len)(h3:u.len<=1000)(h4:0<=y.len)(h5:y.len<=1000)(h6:0<=z.len)(h7:z.len<=1000):Sz k ([v,u,y,z],r):=by unfold Sz;simp only[eX,yap,List.length_nil];omega
theorem Ce {v:Vl}{M:List Vl×Int}(h:Sz k M)(h0:0<=v.len)(h1:v.len<=1000):Sz (k+1) ([v]++M.1,r):=by
 unfold Sz at*
 simp only[yak,my,eX,yap,List.length_nil]
 omega
theorem EJ {n d p q:Int}{N:Nat}(h0:0<=n)(h1:n<=1000):Sz 3 (chM n d p q N):=by
 unfold chM
 exact g7 (g7 (Fv xaa h0 h1 h0 h1 h0 h1) (Hw xaa h0 h1 h0 h1)) (g7 (Hw xaa h0 h1 h0 h1) (rJ xaa h0 h1))
theorem Cf {M:List Vl×Int}(h:Sz k M)(hk:k<=l):Sz l M:=by
 unfold Sz at*
 omega
theorem zj (i:Int)(v:Vl)(ta tb tc:Int)(N:Nat)(h0:0<=v.len)(h1:v.len<=1000):Sz 4 (mvM i v ta tb tc N):=by
 unfold mvM s8 s9 th tr
 exact g7 uP (g7 (g7 uP (g7 uP (rJ xaa h0 h1))) (g7 (g7 uP (g7 (rJ xaa h0 h1) (rJ xaa h0 h1)))
  (g7 (g7 (g7 uP (rJ xaa h0 h1)) (g7 (rJ xaa h0 h1) (Fv xaa h0 h1 h0 h1 h0 h1)))
  (g7 (g7 (g7 uP (Fv xaa h0 h1 h0 h1 h0 h1)) (g7 (rJ xaa h0 h1) (IX xaa h0 h1 h0 h1 h0 h1 h0 h1)))
  (g7 (Ce (EJ h0 h1) h0 h1) (g7 (g7 uP (Cf (EJ h0 h1) xaa)) (g7 (rJ xaa h0 h1) (rJ xaa h0 h1))))))))
theorem po (vs0:List Vl)(x t:Nat)(hl:∀k,k<vs0.length->1<=(vs0.getD k Vl.zero).len/\(vs0.getD k Vl.zero).len<=1000)(hc0:0<=eX vs0)(hc1:eX vs0<=50000):∀k,x+k<vs0.length->(jst vs0 x t k).1.length<=vs0.length+4*k/\0<=eX (jst vs0 x t k).1/\eX (jst vs0 x t k).1<=50000+4000*k
 |0,_=>by simp[jst];omega
 |k+1,hk=>by
  have ih:=po vs0 x t hl hc0 hc1 k xaa
  have hv:=hl (x+1+k) xaa
  have hm:=zj ((x+1+k:Nat):Int) (vs0.getD (x+1+k) Vl.zero) (ovs (vs0.getD (x+1+k) Vl.zero) (jst vs0 x t k).2 (cnt (vs0.getD (x+1+k) Vl.zero).op) 0) (ovs (vs0.getD (x+1+k) Vl.zero) (jst vs0 x t k).2 (cnt (vs0.getD (x+1+k) Vl.zero).op) 1) (ovs (vs0.getD (x+1+k) Vl.zero) (jst vs0 x t k).2 (cnt (vs0.getD (x+1+k) Vl.zero).op) 2) (jst vs0 x t k).1.length xaa xaa
  rw[jst]
  simp only[yak,my]
  unfold jmv
  unfold Sz at hm
  omega
def iy (vs0:List Vl)(s x t:Nat):List Vl×Int:=
 if (jst vs0 x t (s-x)).2.getD s 0=-1 then ((jst vs0 x t (s-x)).1++[eI 1 (vs0.getD s Vl.zero).len 0 0 0],((jst vs0 x t (s-x)).1.length:Nat)) else ((jst vs0 x t (s-x)).1,(jst vs0 x t (s-x)).2.getD s 0)
theorem kD:∀(vs:List Vl),(∀j,j<vs.length->0<=(vs.getD j Vl.zero).len)->0<=eX vs
 |[],_=>by simp[eX]
 |v::r,h=>by
  have h0:=h 0 xac
  have h1:=kD r (λj hj=>h (j+1) yaf)
  have e:(v::r).getD 0 Vl.zero=v:=rfl
  rw[e] at h0
  simp only[eX]
  omega
theorem j6 (ok:okV ins vs k=true):∀q,q<cnt (vs.getD k Vl.zero).op->0<=fld (vs.getD k Vl.zero) q/\fld (vs.getD k Vl.zero) q<k:=λq hq=>by
 by_cases h0:(vs.getD k Vl.zero).op=0
 ·rw[h0,show cnt 0=0 from rfl] at hq
  omega
 ·unfold okV at ok
  rw[if_neg h0] at ok
  simp only[Bool.and_eq_true] at ok
  have h:=List.all_eq_true.1 ok.2.1 ((eN (vs.getD k Vl.zero)).getD q 0) (iR (by rw[iP];exact hq))
  have h2:=of_decide_eq_true h
  rw[xv _ hq,<-Cd _ (by have:=gX (vs.getD k Vl.zero).op;omega)] at h2
  exact h2
def ji (vs:List Vl):Bool:=decide (2000<vs.length\/50000<eX vs)
theorem gj (w:World)(op n a b c:Int):Calls prog 26 #[.int .i64 op,.int .i64 n,.int .i64 a,.int .i64 b,.int .i64 c] w λe w'=>e=.returned (eI op n a b c).agg/\Kept 0 0 w w':=by
 go_enter func26,ntmps26
 go_wp2_with fail
 refine yay (v:=(eI op n a b c).agg) (by simp[results,results26,go_sem]) rfl ⟨rfl,ez 0 0 w _⟩
theorem lY (w:World)(n:Int):Calls prog 41 #[.int .i64 n] w λe w'=>e=.returned (eI 1 n 0 0 0).agg/\Kept 0 0 w w':=by
 go_enter func41,ntmps41
 go_wp2_with fail
 refine yay (v:=(eI 1 n 0 0 0).agg) (by simp[results,results41,go_sem]) rfl ⟨rfl,ez 0 0 w _⟩
theorem ir (w:World)(a1 a2 a3:Option Addr)(n1 c1 n2 c2 n3 c3:Nat)(hn:n2<=1000000):Calls prog 27 #[eR a1 n1 c1 a2 n2 c2 a3 n3 c3] w λe w'=>e=.returned (.int .i64 ((n2:Int)-1))/\Kept 0 0 w w':=by
 go_enter func27,ntmps27
 go_wp2
 go_ret
 exact⟨rfl,ez 0 0 w _⟩
theorem Cg {w1 w9:World}{vv:Value}{v:Vl}{o:Obj}{g' cap':Nat}(_h:w.ownsRow base 35 6 vv vs.length (fp vs))(k:Kept 0 0 w w1)
  (hown9:w9.ownsRow base 35 6 (.slice (some ⟨g',0,none⟩) (vs.length+1) cap') (vs.length+1) (fp vs++v.cells)) (hg9:(w1.alloc o).grownBy w9 vv.ownBlock) (hat:vv.ownBlock=some g'\/g'=(w1.alloc o).heap.size):
  w9.ownsRow base 35 6 (.slice (some ⟨g',0,none⟩) (vs.length+1) cap') (vs.length+1) (fp (vs++[v]))/\StQ (λ_=>False) vv.ownBlock w (some g') w9:=by
 refine⟨by rw[jf,kz];exact hown9,⟨hg9.os.trans k.os,hg9.tape.trans k.tape,hg9.output.trans k.output,?_,λi hi hn=>?_⟩,?_⟩
 ·have h1:=hg9.size
  have h2:=k.size
  simp at h1
  omega
 ·have h2:=k.size
  rw[hg9.block i yaf (λc=>hn (.inr c.symm)),Below.heap_alloc w1 o i xaa]
  exact k.block i hi xaa
 ·rcases hat with e|e
  ·exact .inl e.symm
  ·have h2:=k.size
   exact .inr ⟨g',rfl,by rw[e];simp;omega⟩
theorem StQ.new {Q:Nat->Prop}{R R':Option Nat}{w'':World}(s:StQ Q R w R' w')(k:Kept l h w' w'')(hl:w.heap.size<=l):StQ Q R w R' w'':=
 ⟨⟨k.os.trans s.chg.os,k.tape.trans s.chg.tape,k.output.trans s.chg.output,yan s.chg.size k.size,λi hi hn=>by
   rw[k.block i (yaj hi s.chg.size) xaa]
   exact s.chg.block i hi hn⟩,s.row⟩
theorem oj (w:World)(b1 a2 b3:Option Addr)(m1 e1 cap m3 e3 base:Nat)(vs:List Vl)(v:Vl)(h:w.ownsRow base 35 6 (.slice a2 vs.length cap) vs.length (fp vs))(hb:base<=w.heap.size)(hn:vs.length<=1000000):
  Calls prog 24 #[eR b1 m1 e1 a2 vs.length cap b3 m3 e3,v.agg] w λe w'=>∃g' cap',e=.returned (eR b1 m1 e1 (some ⟨g',0,none⟩) (vs.length+1) cap' b3 m3 e3)/\w'.ownsRow base 35 6 (.slice (some ⟨g',0,none⟩) (vs.length+1) cap') (vs.length+1) (fp (vs++[v]))/\StQ (λ_=>False) (Value.slice a2 vs.length cap).ownBlock w (some g') w':=by
 obtain⟨i0,hi,hz0,hz1,hz2⟩:=info_parts oh
 have k1:=ez 0 0 w (eP b1 m1 e1 a2 vs.length cap b3 m3 e3)
 have k2:=ez 0 0 (w.alloc (eP b1 m1 e1 a2 vs.length cap b3 m3 e3)) (fX v.op v.len v.a v.b v.c v.k)
 have k3:=ez 0 0 ((w.alloc (eP b1 m1 e1 a2 vs.length cap b3 m3 e3)).alloc (fX v.op v.len v.a v.b v.c v.k)) eZ
 have hG:=((fE w (.slice b1 m1 e1) (.slice a2 vs.length cap) (.slice b3 m3 e3)).keep k2).keep k3
 have fG:∀o,(((w.alloc (eP b1 m1 e1 a2 vs.length cap b3 m3 e3)).alloc (fX v.op v.len v.a v.b v.c v.k)).alloc eZ).frozen? ⟨w.heap.size,o,none⟩=false:=λo=>by
  rw[(k2.trans k3).frozen (p:=⟨w.heap.size,o,none⟩) xac xaa]
  simp
 have hV:=(lA (w.alloc (eP b1 m1 e1 a2 vs.length cap b3 m3 e3)) v).keep xac k3 yaa
 have hN:=fZ ((w.alloc (eP b1 m1 e1 a2 vs.length cap b3 m3 e3)).alloc (fX v.op v.len v.a v.b v.c v.k))
 rw[show((w.alloc (eP b1 m1 e1 a2 vs.length cap b3 m3 e3)).alloc (fX v.op v.len v.a v.b v.c v.k)).heap.size=w.heap.size+1+1 by simp] at hN
 rw[show(w.alloc (eP b1 m1 e1 a2 vs.length cap b3 m3 e3)).heap.size=w.heap.size+1 by simp] at hV
 have hk:=(k1.trans k2).trans k3
 have hown:=eO h hk
 have HW:Hid _:=h
 have HK:Hid _:=hk
 have HN:Hid _:=hN
 have HG:Hid _:=hG
 have HFG:Hid _:=fG
 obtain⟨_,p0,p1,p2⟩:=hG
 obtain⟨v0,v1,v2,v3,v4,v5⟩:=hV
 have hbz:base<=(((w.alloc (eP b1 m1 e1 a2 vs.length cap b3 m3 e3)).alloc (fX v.op v.len v.a v.b v.c v.k)).alloc eZ).heap.size:=yan hb hk.size
 clear k1 k2 k3 fG hN hk h
 go_enter func24,ntmps24
 go_wp2_with (first|(at_builtin;refine wpList_append_lies _ rfl _ _ 24 rfl base 35 i0 (ib 0 0 0 0 0 0) 6 48 underlying24 hi hz0 hz1 hz2 rfl xab _ _ (fp vs) rfl (hown.alloc _) ⟨w.heap.size+1+1+1,0,none⟩ 1 1 v.cells rfl rfl ?c1 ?c2 xab ?c3 ?c4 ?c5 _ rfl ?_))
 case c1=>
  have h6:=qn (((w.alloc (eP b1 m1 e1 a2 vs.length cap b3 m3 e3)).alloc (fX v.op v.len v.a v.b v.c v.k)).alloc eZ) v 0
  rw[show(((w.alloc (eP b1 m1 e1 a2 vs.length cap b3 m3 e3)).alloc (fX v.op v.len v.a v.b v.c v.k)).alloc eZ).heap.size=w.heap.size+1+1+1 by simp] at h6
  exact h6
 case c2=>exact uK v
 case c3=>unfold maxLen;omega
 case c4=>omega
 case c5=>simp;omega
 intro g9 cap9 w9 hown9 hg9 hat9 hlt9
 have hs3:(((w.alloc (eP b1 m1 e1 a2 vs.length cap b3 m3 e3)).alloc (fX v.op v.len v.a v.b v.c v.k)).alloc eZ).heap.size=w.heap.size+1+1+1:=by simp
 have hat':(Value.slice a2 vs.length cap).ownBlock=some g9\/g9=((((w.alloc (eP b1 m1 e1 a2 vs.length cap b3 m3 e3)).alloc (fX v.op v.len v.a v.b v.c v.k)).alloc eZ).alloc (.cells #[.int .i64 v.op,.int .i64 v.len,.int .i64 v.a,.int .i64 v.b,.int .i64 v.c,.float .f64 v.k] 35)).heap.size:=hat9.imp id (λe=>by rw[e];simp)
 obtain⟨r1,r2⟩:=Cg (v:=v) HW.out HK.out hown9 hg9 hat'
 have hrow:∀B,w.heap.size<=B->(Value.slice a2 vs.length cap).ownBlock≠some B:=λB hB e=>by have:=(eG HW.out e).2;omega
 have hg':g9<w.heap.size\/w.heap.size+1+1+1<g9:=by
  rcases hat' with e|e
  ·exact .inl (eG HW.out e).2
  ·right
   rw[e]
   simp
 have x0:=jC (m:=0) hg9 (by rw[hs3];omega) (hrow w.heap.size yad) p0
 have x1:=jC (m:=0) hg9 (by rw[hs3];omega) (hrow w.heap.size yad) p1
 have x2:=jC (m:=0) hg9 (by rw[hs3];omega) (hrow w.heap.size yad) p2
 have xf:=far2 (m:=0) hg9 (by rw[hs3];omega) (hrow w.heap.size yad) (HFG.out 1)
 obtain⟨_,n0,n1,n2,m0,m1',m2⟩:=HN.out
 have y0:=jC (m:=0) hg9 (by rw[hs3];omega) (hrow (w.heap.size+1+1) xaa) n0
 have y1:=jC (m:=0) hg9 (by rw[hs3];omega) (hrow (w.heap.size+1+1) xaa) n1
 have y2:=jC (m:=0) hg9 (by rw[hs3];omega) (hrow (w.heap.size+1+1) xaa) n2
 have z0:=far2 (m:=0) hg9 (by rw[hs3];omega) (hrow (w.heap.size+1+1) xaa) m0
 have z1:=far2 (m:=0) hg9 (by rw[hs3];omega) (hrow (w.heap.size+1+1) xaa) m1'
 have z2:=far2 (m:=0) hg9 (by rw[hs3];omega) (hrow (w.heap.size+1+1) xaa) m2
 have R1:Hid _:=r1
 have R2:Hid _:=r2
 clear r1 r2 hown9 hg9 hat9 hat' hrow hown HW HK HN HG HFG p0 p1 p2 v0 v1 v2 v3 v4 v5 hbz hs3 n0 n1 n2 m0 m1' m2 hlt9
 go_wp2_with fail
 have nB:∀B,(B=w.heap.size\/B=w.heap.size+1+1)->(Value.slice (some ⟨g9,0,none⟩) (vs.length+1) cap9).ownBlock≠some B:=λB hB e=>by
  have e':g9=B:=by simpa[Value.ownBlock] using e
  omega
 have o1:=eH (o:=2) (u:=.slice b3 m3 e3) (eH (o:=1) (u:=.slice (some ⟨g9,0,none⟩) (vs.length+1) cap9) (eH (o:=0) (u:=.slice b1 m1 e1) (eH (o:=1) (u:=.slice (some ⟨g9,0,none⟩) (vs.length+1) cap9) R1.out (nB w.heap.size (.inl rfl))) (nB (w.heap.size+1+1) (.inr rfl))) (nB (w.heap.size+1+1) (.inr rfl))) (nB (w.heap.size+1+1) (.inr rfl))
 have y0':(w9.setCell ⟨w.heap.size,1,none⟩ (.slice (some ⟨g9,0,none⟩) (vs.length+1) cap9)).cell? ⟨w.heap.size+1+1,0,none⟩=_:=(eW _ _ _ _ _ _ (.inl xaa)).trans y0
 have y1':(w9.setCell ⟨w.heap.size,1,none⟩ (.slice (some ⟨g9,0,none⟩) (vs.length+1) cap9)).cell? ⟨w.heap.size+1+1,1,none⟩=_:=(eW _ _ _ _ _ _ (.inl xaa)).trans y1
 have y2':(w9.setCell ⟨w.heap.size,1,none⟩ (.slice (some ⟨g9,0,none⟩) (vs.length+1) cap9)).cell? ⟨w.heap.size+1+1,2,none⟩=_:=(eW _ _ _ _ _ _ (.inl xaa)).trans y2
 obtain⟨s0,s1,s2⟩:=eY (w9.setCell ⟨w.heap.size,1,none⟩ (.slice (some ⟨g9,0,none⟩) (vs.length+1) cap9)) (w.heap.size+1+1) _ _ _ y0' y1' y2' (.slice b1 m1 e1) (.slice (some ⟨g9,0,none⟩) (vs.length+1) cap9) (.slice b3 m3 e3)
 have q1:=StQ.new R2.out (eL (lo:=w.heap.size) (hi:=w.heap.size+1) w9 ⟨w.heap.size,1,none⟩ (.slice (some ⟨g9,0,none⟩) (vs.length+1) cap9) yac) yad
 have q2:=StQ.new q1 (fc (w9.setCell ⟨w.heap.size,1,none⟩ (.slice (some ⟨g9,0,none⟩) (vs.length+1) cap9)) (w.heap.size+1+1) (.slice b1 m1 e1) (.slice (some ⟨g9,0,none⟩) (vs.length+1) cap9) (.slice b3 m3 e3)) xaa
 refine yay (v:=eR b1 m1 e1 (some ⟨g9,0,none⟩) (vs.length+1) cap9 b3 m3 e3) (by simp[results,results24,go_sem,s0,s1,s2]) rfl ⟨g9,cap9,rfl,o1,q2⟩
